import PyProof.Rows.All
import KE.KPairComp
import OpenK.KOwn
import Open.SpecLaws
import KE.KDictOf
import KE.KNest
import KE.OsHead
import PySem.Challenge.RW_halfseendesk_s06_ask
import PyWqbada
set_option Elab.async false
set_option linter.all false
set_option maxRecDepth 100000
set_option maxHeartbeats 2000000
set_option bootstrap.genMatcherCode false
set_option genSizeOf false
set_option genSizeOfSpec false
set_option compiler.extract_closed false
namespace MP_
open Lean
def mI(s:String):Syntax:=mkIdent (s.splitOn "."|>.foldl (λn c=>.str n c) .anonymous)
def mN:Name->Array Syntax->Syntax:=.node .none
def mS(f:String)(l:List Syntax)(r:String)(k:Name):Syntax:=mN k #[mkAtom f,mkNullNode ((l.intersperse (mkAtom ",")).toArray),mkAtom r]
def nT:String->Name:=.str `Lean.Parser.Term
def nC:String->Name:=.str `Lean.Parser.Tactic
def mP(f:Syntax)(a:Array Syntax):Syntax:=mN (nT "app") #[f,mkNullNode a]
def mA:List Syntax->Syntax
|[x]=>x
|l=>match l.reverse with|f::a=>mP f a.toArray|_=>.missing
def mW(w:String):Syntax:=if w="_" then mN (nT "hole") #[mkAtom w] else if w="?_" then mN (nT "syntheticHole") #[mkAtom "?",mkAtom "_"] else if w.front.isDigit then Syntax.mkNumLit w else if w.front='.' then mN (nT "dotIdent") #[mkAtom ".",mI (w.drop 1).toString] else mI w
def mG:List String->List Syntax->List Syntax->List (List Syntax×List Syntax)->Syntax
|[],_,c,_=>mA c
|w::r,p,c,s=>if w="("||w="⟨"||w="[" then mG r [] [] ((p,c)::s)
 else if w="," then mG r (mA c::p) [] s
 else if w=")"||w="⟩"||w="]" then
  let l:=(if c.isEmpty then p else mA c::p).reverse
  match s with|(p,d)::s=>mG r p ((if w=")" then mA c else if w="⟩" then mS "⟨" l w (nT "anonymousCtor") else mS "[" l w `«term[_]»)::d) s|_=>.missing
 else mG r p (mW w::c) s
def mL(s:String):Syntax:=mG (((("( ) ⟨ ⟩ [ ] ,".splitOn " ").foldl (λs c=>s.replace c (" "++c++" ")) s).splitOn " ").filter (· ≠"")) [] [] []
def mT(t n:String):Option Syntax:=(t.splitOn ";").findSome? λe=>if e.startsWith (n++" ") then some (match (e.drop (n.length+1)).toString.splitOn "=>" with|[b,x]=>mN (nT "fun") #[mkAtom "fun",mN (nT "basicFun") #[mkNullNode ((b.splitOn " ").map mW).toArray,mkNullNode,mkAtom "=>",mL x]]|x=>mL (x.headD "")) else none
def tb:="Æ ⟨Γ,⟨_,_,⟨Γ,Γ,Γ,Γ⟩,L2.nO Γ Γ Γ ⟩,⟨Γ,Γ,Γ,Γ⟩,Δ⟩;Ê cY Δ;Ù ⟨Γ,⟨yb Γ Γ Ä,Γ,Γ,Γ⟩,Γ⟩;ç upd (upd (upd H T0 (ent .none T0)) a (exc C od (.ref T) a)) T (ent (rawInt L) T);é ⟨_,_,_,_,_,Γ,Γ,Ñ,Ε⟩;î ⟨rfl,rfl,rfl,É,rfl,É,É⟩;Õ X hP hw hK hc i pins s σ H E I hf st hg;Ú pins s σ H Q I h;ð pins s σ H x y v u Q I rx ry h;Α some;Β none;Á rfl;Â aJ A outer s H vs Q E hr h=>?_;Ã Inv X pins σ;Ç Dn P w K mg base aE;È model X.prog X.w;Ë aZ P w K mg base aE;Ì ks.map au.m;Í model prog w;Ï hc=>?_;Ò _ _ _ _ _=>eG;Ó X.gS s H scope(compEnvC scope cl C X.env)fp;Ô l.kinds.map au.m;Ö _ _=>rfl;Ø pv 0;Ü pO PySem.F.plainAttrs_list PySem.F.slot_list_append PySem.F.type_list_append yD;Ý aA(i7 hr.hd X.c(lr X.c X.lI X.keep rfl X.mC));Þ b.es.map bI.row;à ⟨Tt,_,Á,bw.of aq,Á,_,_,Á,_,_,Á,Á,Á,eJ ?_⟩;á pv 1;â .ListComp lW[⟨tg,iter,j0,0⟩]scope pos;ã .lst[];ä aa K H;å pv 2;æ bg left;è ⟨Tt,_,Á,bw.of aq,Á,_,_,Á,_,_,Á,Á,Á,?_⟩;í .dK(bW V.int lacks);ñ _=>aA(aV(dv(ae(iU jj bc)af)));ò p.ao.map cz.m;ó pO PySem.F.plainAttrs_list PySem.F.slot_list_extend PySem.F.type_list_extend FZ;ô EP X pins σ;õ ae Ø af;ö pv 3;ø dy sames;ù excClassObj nm q C N bs bm true sn sub ab col dd k0 k1 k2 k3 k5 newId;ú .ref s.heap.objs.size;û starEach es X.env;ü ft rows(gB ms rows);ý aZ X.prog X.w X.K X.mg X.base;þ H' f=>?_;ÿ aX Ø rfl;Ā nU P w K mg base;ā c8 gv Ð tL PySem.boot_len(ae å af);Ă c8 gv Ð tL PySem.boot_len(ae á af);ă I.ok.hd hc;Ą .lst(g9.map V.ref);ą i y H' hi f=>?_;Ć kI.map codes;ć cK sames;Ĉ .ref C;ĉ c7 classes;Ċ Dn P w K mg base;ċ gR I q Ä;Č fw X.prog X.w;č c8 gv Ð tL PySem.boot_len õ;Ď cy.zero hD;ď .ref f;Đ upd H1 D ã;đ .dK kvs;Ē gw P w;ē b hb=>?_;Ĕ .lst(qs.map V.ref);ĕ upd H s.heap.objs.size;Ė jb x.zs bits;ė bu lf l s;Ę ⟨_,Á,?_⟩;ę pv 4;Ě excClassObj nm q C N bs bm hdct sn sub ab col dd k0 k1 k2 k3 k5 newId;ě Flags.less1 left f;Ĝ .ref p;ĝ .inl Á;Ğ ir K mg;ğ s2.trans s3;Ġ PySem.W.fnOf x d8(vd st)(pz st)(ba st).none kV jB pm an aJ ct;ġ I.aD.fresh(bA _);Ģ aZ P w K mg base;ģ hd=>?_;Ĥ ai.refl H';ĥ X.gS s3 H3 scope ce fp;Ħ gh sames.length ć æ ß D;ħ .ref a;Ĩ dv af;ĩ fk Ø å rfl;Ī fk Ø á rfl;ī jq K s₁.heap;Ĭ compEnvC scope cl s3.heap.objs.size X.env;ĭ aX(cJ c9 ÿ(iU jj bc)Ö)rfl;Į i6 jI rfl;į cK sames b;İ .dK(bW gA tt);ı bh ms;Ĳ w.map B;ĳ ae ö af;Ĵ .Tuple oo kk nN;ĵ yE X.N X.env.scope scope;Ķ oy CX P w K mg base N d8;ķ fb P w H;ĸ Gm TN.c iN G8 TN.keep GN ub rfl TN.mC;Ĺ ae á af;ĺ aX Ø Á;Ļ ⟨Á,_,Á,?_⟩;ļ b z=>absurd z Ä;Ľ l.map B;ľ wipe σ vs;Ŀ ax 3;ŀ ae(pv 5)af;Ł PySem.W.instObj C s.heap.objs.size;ł ae å af;Ń nh CK H pk;ń σ.set i(some v);Ņ bV JM.iJ line;ņ bV JM.iI line;Ň aX á rfl;ň nE X pins;ŉ Binds X.K fd ps;Ŋ sames.getD i 0;ŋ sames.getD b 0;Ō rL C h.objs.size;ō past.map bJ;Ŏ kp p hp;ŏ gB ms rows;Ő bg(jX ms);ő aA(i7 hr.hd X.c(lr X.c X.lI X.keep Á X.mC));Œ .lst(iv l);œ .int 0;Ŕ putK kvs k;ŕ i x Tt H' hi f hT=>?_;Ŗ ws.getD 1[];ŗ upd H1 pl Ą;Ř iv p.classes;ř ax 2;Ś exc C none .none x;ś Builtin.bitAnd i j;Ŝ .int 1;ŝ ae ę af;Ş ae(cJ c9 á bc Ö)af;ş PySem.W.kHook kK kA kE;Š .dK(bW gI(gX y.m.flatten));š bw K H;Ţ ⟨Á,?_⟩;ţ y=>PyData.eqv(dataOf(aj.zip ds)y)dx;Ť b o nb nf g=>?_;ť vI hr.units;Ŧ ms.map(jT classes d);ŧ .ref x;Ũ ib K;ũ codes x;Ū upd H2 Tt;ū h1=>?_;Ŭ ns.map V.int;ŭ upd H a;Ů m6 H H';ů aY L.pl T.cP T.m8;Ű w hw=>CH rx fx r fs w Å;ű ent(rawInt L)T;Ų ax 0;ų .ref T;Ŵ upd(ŭ(exc C od ų a))T ű;ŵ refusal t b;Ŷ jn X.env.cells scope.names;ŷ ⟨_,Á,Á,_,Á,?_⟩;Ÿ y.m.take i;Ź y.m.map List.length;ź vs.map toV;Ż o8 ms rows;ż mw Ô p.m;Ž envOfC d8 scope s.heap.objs.size f cd;ž ax 1;ſ ai.refl H;ϊ aB ĩ(aA(fk Ø ö rfl));ϋ aA(aV rQ);ό .lst(iv(nv x.ns));ύ .cO od í;ώ .bool(lexLt ns ms);Ϗ .Name x p;ϐ wpAny M A;ϑ upd H l;ϒ rs.map eK.m;ϓ bits.take i;ϔ .ref D;ϕ .cO od u;ϖ .builtin id;ϗ fX m;Ϙ l x ih=>?_;ϙ b o hb e=>eb b o hb e;Ϛ vP.map codes;ϛ ms.getD i eW;Ϝ ms.getD f eW;ϝ fU(j3(dh e)(I.ok.Ac x c J9 hc));Ϟ b.map B;ϟ .lst(iv(line.take j));Ϡ .ins C dx fs;ϡ .Compare a[op][b]pos;Ϣ HT.lexLt ns ms;ϣ .ref r;Ϥ .dK[];ϥ PE X e;Ϧ ⟨?_,?_⟩;ϧ xs.map PyData.int;Ϩ upd H' Tt;ϩ x hx=>?_;Ϫ pv 6;ϫ aA(aV vo);Ϭ I.base.free b o e n hx;ϭ .ref p.a;Ϯ .error e;ϯ .cO o đ;ϰ jV x.zs p.gy bits;ϱ g7 K C;ϲ PE X a;ϳ Inv X pins σ' H';ϴ PySem.mem_of_lookup e;ϵ ⟨_,Á,Á,_,Á,ite_yes Á ?_⟩;϶ v.gs.map cA.m;Ϸ ae(cu cB)af;ϸ e K q=>?_;Ϲ keywordEach[]X.env;Ϻ j3(dh e)I.ok.above;Àa Flags.lacks left(l.map ø)s;Àb .lst(iv(nv sames));Àc .Name x pos;Àd b hb u hu=>?_;Àe o7 sames left;Àf gu X.prog X.w;Àg fb X.prog X.w;Àh _ _ p=>Bool.noConfusion p;Ài Ķ scope f aJ A outer s H E;Àj ws.getD 0[];Àk ps.map V.ref;Àl importedModules P.main.body;Àm eval e X.env;Àn c7 m.classes;Ào .tup xs;Àp .lst xs;Àq wN I hg hm;Àr jc ms rows;Às ps.zip us;Àt aX å rfl;Àu oP look classes;Àv EJ L ms classes;Àw h2=>?_;Àx H3 f=>?_;Ày z.m.take i;Àz hs.map List.length;Áa fe.zero hD;Áb eT p.eX sg⟨D,Ė same⟩;Ác cy.zero ck;Ád cJ c9 å bc Ö;Áe .ref y.a;Áf .ref d;Ág yB P w K mg base A outer s;Áh compEnvC scope cl C X.env;Ái I.base.keep b o e n hb hx;Áj gu P w H h a;Ák aa X.K H;Ál Dp K H;Ám upd H2 D ã;Án t.map B;Áo s1.trans s2;Áp past.map o9;Áq p.map B;Ár nv(List.range G);Ás jO Ð tE õ;Át fs.lookup f;Áu fg.map i3.m;Áv fQ(eF p.m);Áw Codec.inInt 0 255;Áx eY C p;Áy dec lf(sm b);Áz compareOp .Eq;Âa .ref l;Âb i v Tt H' hi f hT=>?_;Âc _ _ _ _ _=>cZ 8 qe.nd;Âd r.map ø;Âe model P w;Âf jW rows x;Âg iU jj bc;Âh fQ(eF p);Âi compareOp .NotEq;Âj ba st;Âk a9 Ŀ dq;Âl .int i t;Âm y hy=>?_;Ân c v hc q=>k c v ?_ q;Âo upd H0 pl ύ;Âp t.map cont;Âq start N vs;Âr some ď;Âs sI ms m.classes d m.ao;Ât bu æ ß s;Âu ae(pv 7)af;Âv aA(aV á);Âw .lst ys;Âx .ins C dx[];Ây i H' hi f=>?_;Âz .tup(k.map kV);Ãa rL C s.heap.objs.size;Ãb i=>bs.getD i false;Ãc b o e nb=>?_;Ãd pv 5;Ãe kHook kK kA kE;Ãf h pins s σ H Q I hw;Ãg fw P w;Ãh dec lf s;Ãi ae ÿ af;Ãj TP X pins σ Q;Ãk PySem.W.instObj C dx;Ãl Dm hr.units;Ãm .int i;Ãn jz(eF m);Ão iv part;Ãp aX ö rfl;Ãq .ref it;Ãr .dT kvs;Ãs b=>sames.getD b 0;Ãt ax 4;Ãu .lst(iv(nv bits));Ãv _ v x _=>?_;Ãw es.map bI.row;Ãx b=>qR.contains b;Ãy b=>mj.contains b;Ãz _ _ _ _=>trivial;Äa upd H' d u;Äb ui CL CK l;Äc oa rows ŏ;Äd name.map B;Äe jZ Ì p.classes ϒ;Äf jZ ms p.classes rs;Äg I1.aD.fresh(bA _);Äh I.C9 hd mu;Äi .lst(iv(nv row));Äj ⟨I1.gD,?_⟩;Äk lg=>?_;Äl l s ih=>?_;Äm j y H' hj f=>?_;Än _=>rfl;Äo _ _=>False;Äp _ _ _ _ _=>pv 2;Äq tC Ŝ;Är tC œ;Äs sm b;Ät setAttr ŧ name v;Äu qs.map V.ref;Äv ql CE e;Äw ms.map PyData.int;Äx m7 p;Äy jU Ì y.m.flatten;Äz g i j;Åa eval o X.env;Åb eQ q hn;Åc dec æ s;Åd dX á;Åe dX Ø;Åf compareOp op;Åg ae Ĩ af;Åh aX á Á;Åi a9(ax 5)dq;Åj Cq X pins σ tg R;Åk .ref z.a;Ål .ref lb;Åm .ref la;Ån ya L(c7 cl)d f;Åo some v;Åp fw prog w;Åq Flags.numberOf p;År DX K C CK;Ås Builtin.bitNot i;Åt .ref q;Åu .own x;Åv .cO vZ İ;Åw H2 f2=>?_;Åx upd H0 d Ϥ;Åy upd H e1 ã;Åz s1.trans s3;Æa p.eX.map ig;Æb ls.map eB.m;Æc eE aL;Æd b.ns.take j;Æe SP X pins D;Æf b o e=>du _ e;Æg places.getD i 0;Æh gW C;Æi cJ c9 á Âg Ö;Æj ax 7;Æk .dK(vA[]kvs);Æl rh CV v;Æm qo CR r;Æn lh D Nx;Æo iv line;Æp c.map B;Æq .tup ys;Ær .ref pk;Æs .int 32;Æt q hq=>?_;Æu hn=>?_;Æv b o nb g=>?_;Æw H2 f=>?_;Æx vm s₁.heap H;Æy vR É;Æz upd H d ϕ;Ça s1.free hx;Çb rawInt L;Çc qg ms rows;Çd pz st;Çe pH(rR å);Çf m3 x;Çg l.map ø;Çh hb 0 v0 Å rfl;Çi gW C g;Çj ft y.m z.m;Çk fe.zero ck;Çl e9 y;Çm cu cS;Çn cJ c9 Ø bc Ö;Ço cJ Ao Ϫ bc Ö;Çp bu lf ß s;Çq bQ r ta tb;Çr aA(aV å);Çs Or.inl rfl;Çt L.getD b 0;Çu K w.params;Çv I1.aD.fresh lX;Çw I.nu x c e;Çx .tup[x,y];Çy .str x;Çz .ref b.a;Èa .lst o;Èb .dT(su[]ts);Èc y.m.getD i[];Èd tupleKind Ãg;Èe pv 7;Èf iv(nv e.row);Èg exc C od ų a;Èh compareOp .Lt;Èi .tup[kV k,v];Èj xk hr;Èk upd H D o;Èl uH p.side;Èm topStub P;Èn ns.take i;Èo ms.map sD;Èp iv(nv l);Èq fU(dh e);Èr e.trans z;Ès cK ı;Èt bj hb;Èu ae Àt af;Èv aG he;Èw .cO od Š;Èx ⟨t1,t2,?_⟩;Èy j q' e=>?_;Èz _=>?_;Éa yV.map codes;Éb xs.map V.int;Éc upd H2 d Åv;Éd upd H' pl í;Ée tupleKind Č;Éf some u;Ég n.map B;Éh lR rows m.ao;Éi jO Ð tE Ãi;Éj bu lf ß s g;Ék argBest bt j;Él List.range n;Ém .ref e;Én .ref ap;Éo .int 8;Ép .inr Á;Éq .cO o u"
def mX(x:Syntax)(a:Array Syntax):MacroM Syntax:=let n:=x.getId.toString;if n.front.toNat>191 then match mT tb n with
|some s=>pure (if a.isEmpty then s else if s.isOfKind (nT "app") then mP s[0] (s[1].getArgs++a) else mP s a)
|_=>Macro.throwUnsupported else Macro.throwUnsupported
def mM(p:Syntax):Syntax:=mN (nC "rcasesPatMed") #[mkNullNode #[p]]
def mE(x:Syntax):Array Syntax:=if x.isOfKind (nT "tuple") then #[x[1][0],mkAtom ","]++x[1][2].getArgs else x[1].getArgs
def mD(x:Syntax):Syntax:=if x.isOfKind (nT "tuple") then mN (nT "anonymousCtor") #[mkAtom "⟨",mkNullNode (mE x),mkAtom "⟩"] else x
def mC:Nat->Syntax->Syntax
|0,x=>x
|n+1,x=>let k s a:=mN (.str (nC "rcasesPat") s) a;if x.isIdent then k "one" #[x] else if x.getArgs.size<2 then k "ignore" #[x[0]] else k "tuple" #[mkAtom "⟨",mkNullNode ((mE x).map λy=>if y.isAtom then y else mN (nC "rcasesPatLo") #[mM (mC n y),mkNullNode]),mkAtom "⟩"]
def mK(s a:String)(x:Syntax):MacroM Syntax:=pure ((x.setKind (nC s)).setArg 0 (mkAtom a))
def mH:Nat->Syntax->Bool
|0,_=>false
|n+1,x=>x.isOfKind (nT "syntheticHole")||x.getArgs.any (mH n)
def sf:List (String×String):=[("Z","heap.objs.size"),("O","objs.size"),("U","heap.get?"),("o","heap.push"),("L","length"),("M","map"),("R","trans"),("Q","lookup"),("I","get?"),("D","getD"),("Y","contains"),("E","same"),("J","filter"),("H","heap"),("X","range"),("u","size")]
def mQ(z:Bool):Name->Name
|.str p s=>if p.isAnonymous&&z then .str p s else match sf.lookup s with|some t=>(t.splitOn ".").foldl .str (mQ z p)|_=>.str (mQ z p) s
|n=>n
def mV:Nat->Syntax->Syntax
|0,x=>x
|n+1,x=>if x.isIdent then let m:=mQ true x.getId;if m==x.getId then x else mkIdent m else if x.isOfKind (nT "proj")&&x[2].isIdent then (x.setArg 0 (mV n x[0])).setArg 2 (mkIdent (mQ false x[2].getId)) else x
def mY(x:Syntax)(a:Array Syntax):MacroM Syntax:=let y:=mV 9 x;if y==x then (if x.isIdent then mX x a else Macro.throwUnsupported) else pure (if a.isEmpty then y else mP y a)
end MP_
local macro_rules(kind:=ident)|x=>MP_.mY x #[]
local macro_rules(kind:=Lean.Parser.Term.proj)|x=>MP_.mY x #[]
local macro_rules(kind:=Lean.Parser.Term.app)|x=>MP_.mY x[0] x[1].getArgs
local macro_rules(kind:=Lean.Parser.Tactic.tacticLet__)|x=>let d:=x[2][0];if d.isOfKind (MP_.nT "letPatDecl") then pure (MP_.mN (MP_.nC "obtain") #[Lean.mkAtom "obtain",Lean.mkNullNode #[MP_.mM (MP_.mC 9 d[0])],Lean.mkNullNode,Lean.mkNullNode #[Lean.mkAtom ":=",Lean.mkNullNode #[d[4]]]]) else MP_.mK "tacticHave__" "have" x
local macro_rules(kind:=Lean.Parser.Tactic.apply)|x=>if MP_.mH 99 x then MP_.mK "refine" "refine" (x.setArg 1 (MP_.mD x[1])) else Lean.Macro.throwUnsupported
local macro_rules(kind:=Lean.Elab.Tactic.Ext.ext)|x=>pure (MP_.mN (MP_.nC "unfold") #[Lean.mkAtom "unfold",Lean.mkNullNode (x[1].getArgs.map λy=>y[0][0]),Lean.mkNullNode])
local macro_rules(kind:=Lean.Parser.Tactic.delta)|x=>MP_.mK "unfold" "unfold" x
local macro_rules|`(tactic|symm)=>`(tactic|simp_all)
local macro_rules(kind:=Lean.Parser.Tactic.exact)|x=>if x[1].isOfKind (MP_.nT "tuple") then pure (x.setArg 1 (MP_.mD x[1])) else Lean.Macro.throwUnsupported
local macro_rules(kind:=Lean.Parser.Tactic.show)|x=>match MP_.mT MP_.tb x[1].getId.toString with|some s=>pure (MP_.mN (MP_.nC "intro") #[Lean.mkAtom "intro",Lean.mkNullNode (#[s[0]]++s[1].getArgs)])|_=>Lean.Macro.throwUnsupported
set_option hygiene false
local macro_rules
|`(Γ)=>`(by k_is)
|`(Δ)=>`(by kernel_rfl)
|`(Ε)=>`(by repeat' constructor)
|`(Ä)=>`(by simp)
|`(Å)=>`(by simp_all)
|`(É)=>`(by decide+kernel)
|`(Î)=>`(by lia)
|`(Ð)=>`(by rfl)
|`(Ñ)=>`(by decide)
|`(Û)=>`(s.Z+1)
|`(ß)=>`((s,B)::r)
|`(ê)=>`(cellsFrom (s3.Z+1) scope.names (jn X.env.cells scope.names []))
|`(ë)=>`((·.map B))
|`(ï)=>`(⟨λi m σ H=>m=xs.L-i/\i<=xs.L/\Pv i σ H,⟨xs.L,by simp,di _,h0⟩,?_⟩)
|`(À $x)=>`(by simpa using $x)
local macro_rules
|`(tactic|show ì)=>`(tactic|obtain⟨f0,f1,f2,f3,f4,f5⟩:=hf it Ä)
noncomputable section
local macro_rules(kind:=Lean.Parser.Command.declaration)|x=>if (x[1][0].getAtomVal="def"||x[1][0].getAtomVal="abbrev")&&x[0].getArgs.all (·.isNone) then pure (x.setArg 0 (x[0].setArg 4 (Lean.mkNullNode #[MP_.mN `Lean.Parser.Command.noncomputable #[Lean.mkAtom "noncomputable"]]))) else Lean.Macro.throwUnsupported
namespace A_
def ag:=@if_neg
def ah:=@if_pos
def ak:=@List.length_map
def aF:=@PySem.wpAny_bind
def aK:=@List.mem_cons_of_mem
def aQ:=@Option.some.inj
def a7:=@List.map_cons
def a8:=@List.mem_cons
def bj:=@List.mem_of_getElem?
def bo:=@List.getElem?_eq_some_iff
def bz:=@List.getElem?_map
def bA:=@Nat.le_refl
def bG:=@List.mem_map
def bH:=@List.map_append
def b9:=@congrArg
def cj:=@List.map_map
def cI:=@List.getElem?_eq_getElem
def cV:=@PySem.wpAny_pure
def dg:=@List.length_cons
def dh:=@PySem.Heap.lt_size
def di:=@Nat.zero_le
def du:=@PySem.Heap.get?_push_of_some
def eE:=@Ne.symm
def eN:=@Bool.false_ne_true
def eO:=@List.mem_cons_self
def eP:=@decide_eq_true
def fu:=@List.mem_append
def fU:=@Nat.ne_of_lt
def gn:=@Nat.le_trans
def gq:=@List.sum_cons
def gC:=@decide_eq_false
def ia:=@PySem.Heap.get?_push_size
def ij:=@List.getD_eq_getElem?_getD
def ik:=@List.length_range
def iz:=@List.mem_filter
def iR:=@List.length_take
def iS:=@List.mem_singleton
def iT:=@List.map_congr_left
def i4:=@List.take_length
def jg:=@List.mem_flatMap
def jD:=@PySem.wpAny_mono
def jE:=@PySem.wpAny_loadPart'
def jF:=@List.append_nil
def jG:=@Bool.and_eq_true
def jH:=@List.all_eq_true
def jI:=@PySem.PassesOwn.never
def j3:=@Nat.lt_of_lt_of_le
def j4:=@List.length_append
def kW:=@PySem.Heap.get?_update_other
def kY:=@List.nodup_cons
def kZ:=@List.not_mem_nil
def k7:=@or_false
def lY:=@decide_eq_true_eq
def lZ:=@List.find?_cons
def mG:=@Bool.false_and
def mJ:=@List.map_nil
def mO:=@of_decide_eq_true
def nq:=@Nat.lt_irrefl
def nr:=@List.getElem_of_mem
def nt:=@Bool.true_and
def qw:=@PySem.Heap.size_push
def qx:=@Bool.eq_iff_iff
def qy:=@Nat.lt_of_le_of_lt
def rG:=@List.mem_append_right
def rH:=@List.all_map
def rJ:=@List.append_assoc
def rK:=@List.filter_cons
def tj:=@List.length_nil
def tm:=@Nat.le_of_lt
def tp:=@PySem.wpAny_truthy_bool
def tq:=@List.all_cons
def tu:=@List.any_eq_true
def tw:=@Bool.and_eq_true_iff
def u0:=@Option.map_eq_some_iff
def u4:=@PySem.wpAny_loadPart_at
def u5:=@Nat.ne_of_gt
def u6:=@PySem.Heap.get?_update_self
def u7:=@List.mem_range
def u9:=@List.size_toArray
def va:=@List.any_cons
def vb:=@PySem.plainId_quiet
def vc:=@Nat.zero_add
def wB:=@PySem.Obj.data_mapFields
def wC:=@PySem.wpAny_field
def wD:=@List.mem_append_left
def wH:=@List.flatMap_append
def wI:=@List.filter_map
def yf:=@PySem.codeAny_mono
def yg:=@PySem.sizeLine_eq
def yh:=@Array.length_toList
def yi:=@beq_eq_false_iff_ne
def yj:=@List.lookup_cons
def yk:=@List.getElem?_eq_none
def yl:=@List.ext_getElem?
def ym:=@Nat.pow_le_pow_right
def zS:=@beq_iff_eq
def zT:=@PySem.wpAny_Call_Name_kw
def zU:=@List.zip_cons_cons
def zV:=@Bool.and_false
def zW:=@List.range_succ_eq_map
def zX:=@List.mem_of_mem_take
def zY:=@PyProof.Rows.boot_all
def zZ:=@List.mem_map_of_mem
def z4:=@Nat.pow_succ
def z5:=@List.nil_append
def z6:=@List.nodup_nil
def z7:=@List.flatMap_cons
def z8:=@Nat.testBit_and
def BQ:=@List.contains_cons
def BR:=@Array.getElem?_eq_some_iff
def BS:=@PySem.wpAny_seqItems
def BU:=@Int.toNat_natCast
def BV:=@List.filterMap_cons
def BW:=@PySem.wpAny_passesOwn
def BX:=@PySem.codeAny_builtin
def BY:=@PySem.Around.under_plainId
def BZ:=@PySem.F.plain_min_loop
def B0:=@List.getLast?_append
def B1:=@List.dropLast_subset
def B3:=@List.length_filter_le
def B4:=@List.contains_iff_mem
def B5:=@Nat.testBit_lt_two_pow
def B6:=@List.filter_cons_of_pos
def B7:=@List.filter_cons_of_neg
def Fb:=@PySem.wpAny_holding
def Fc:=@PySem.wpAny_call
def Fd:=@PySem.wpAny_setField
def Fe:=@Nat.le_of_eq
def Ff:=@PySem.wpAny_execs_nil
def Fg:=@PyProof.Rows.callWith_type1
def Fh:=@PySem.Calls.spliced_cons
def Fi:=@Nat.le_succ
def Fj:=@List.getElem?_append_left
def Fk:=@if_true
def Fl:=@Nat.lt_succ_of_lt
def Fm:=@Option.isSome_map
def Fn:=@PySem.tupleKind_room_in1
def Fo:=@PySem.call_meetsIn
def Fp:=@PySem.wpAny_updateSeq
def Fq:=@List.mem_of_getLast?
def Fs:=@List.filter_append
def Ft:=@List.sum_append
def Fu:=@List.foldl_cons
def Fv:=@Classical.byContradiction
def Fw:=@Option.bind_some
def Jx:=@PySem.wpAny_newObj_type
def Jy:=@PySem.Obj.isFreed_of_fields
def Jz:=@List.mem_filterMap
def JA:=@List.of_mem_zip
def JB:=@Option.isSome_iff_exists
def JC:=@PySem.Calls.callWith_builtin
def JD:=@PySem.call_meets
def JE:=@List.take_of_length_le
def JF:=@List.any_map
def JG:=@Option.map_some
def JH:=@Nat.lt_trans
def JI:=@PySem.wpAny_Call_method
def JJ:=@PySem.wpAny_tryCatch
def JK:=@Bool.and_self
def JL:=@PySem.wpAny_letGo
def JN:=@List.mapM_cons
def JO:=@List.getLast?_singleton
def JP:=@decide_eq_false_iff_not
def JQ:=@List.range_succ
def JR:=@List.pairwise_cons
def JS:=@List.pairwise_map
def JT:=@List.getElem?_zip_eq_some
def JU:=@decide_eq_decide
def JV:=@Int.le_refl
def JW:=@List.filter_congr
def Rv:=@PySem.wpAny_isSubtype_exc
def Rw:=@PySem.F.slot_tuple_iterator_next
def Rx:=@PySem.wpAny_rule
def Ry:=@PySem.Heap.get?_none_of_le
def Rz:=@PySem.wpAny_pyIter_list
def RA:=@Nat.lt_succ_self
def RB:=@PySem.Calls.spliced_nil
def RC:=@List.getElem?_append_right
def RD:=@PySem.richCompare_meets_room
def RE:=@PySem.Calls.evalArgs_plain
def RF:=@PySem.pushCells_keeps
def RG:=@Nat.le_of_succ_le
def RH:=@PySem.wpAny_standAt
def RI:=@Bool.false_eq_true
def RJ:=@if_false
def RK:=@Bool.false_or
def RL:=@PySem.wpAny_typeOf
def RM:=@PySem.wpAny_pyIter_enum
def RN:=@PySem.SeqAt.canLay_of_shaped
def RO:=@List.nodup_append
def RP:=@Nat.add_zero
def RQ:=@List.length_eq_zero_iff
def RR:=@List.map_drop
def RS:=@List.take_append_drop
def RT:=@List.take_succ_cons
def RU:=@List.findIdx?_eq_some_iff_getElem
def RV:=@Nat.min_eq_left
def RW:=@List.getElem?_range
def RX:=@Bool.and_true
def RY:=@List.map_eq_nil_iff
def RZ:=@Int.natCast_nonneg
def R1:=@List.mem_flatten
def R3:=@Int.zero_add
def R4:=@List.flatten_cons
def R7:=@List.nodup_range
def R8:=@Bool.not_not
def R9:=@List.flatMap_map
def Sa:=@List.map_flatMap
def Sb:=@decide_eq_true_iff
def Sd:=@List.length_flatten
def aaS:=@PySem.wpAny_typeLookup_exc
def aaT:=@Bool.or_true
def aaU:=@PySem.Obj.cls_mapFields
def aaV:=@PySem.wpAny_pyIter_tuple
def aaW:=@List.getElem_inj
def aaX:=@List.getElem?_set_self
def aaY:=@List.getElem?_set_ne
def aa1:=@PySem.wpAny_execs_cons
def aa3:=@PySem.plainObj_wpAny_Assign_Attribute
def aa4:=@List.getElem?_take_of_lt
def aa6:=@List.length_drop
def aa7:=@Array.getElem?_toList
def aa8:=@List.length_dropLast
def aba:=@PySem.Heap.DictOf.new
def abb:=@Nat.add_le_add_left
def abc:=@List.getElem_range
def abd:=@List.getElem?_drop
def abe:=@PySem.wpAny_ite_split
def abf:=@Bool.or_false
def abg:=@PySem.F.entry_min_loop
def abi:=@List.mem_of_mem_drop
def abj:=@List.map_take
def abl:=@beq_self_eq_true
def abm:=@List.findIdx?_cons
def abn:=@List.drop_zero
def abo:=@Function.comp_apply
def abp:=@List.exists_cons_of_length_eq_add_one
def abq:=@Nat.succ.inj
def abr:=@List.Sublist.refl
def abt:=@List.filterMap_append
def abu:=@List.zip_append
def abv:=@List.drop_eq_nil_of_le
def abw:=@List.map_id'
def abx:=@Nat.add_comm
def aby:=@List.zip_map_right
def abz:=@Nat.eq_of_testBit_eq
def abA:=@List.mem_eraseDups
def abB:=@Nat.testBit_two_pow_add_gt
def abC:=@Nat.testBit_two_pow_add_eq
def abD:=@Nat.two_pow_pos
def abE:=@List.filter_sublist
def abF:=@List.length_singleton
def abG:=@Nat.lt_trichotomy
def abH:=@Function.comp_def
def abI:=@PySem.W.Codec.inNat_iff
def atl:=@PySem.F.entry_tuple_iterator_next
def atm:=@PySem.F.args_tuple_iterator_next_1
def ats:=@PySem.Calls.Name_function_global
def atz:=@PyProof.Rows.callWith_builtin1
def atB:=@PySem.AutoSeq1.sub_tuple_tuple
def atF:=@Option.isSome_some
def atG:=@Array.getElem?_eq_none
def atJ:=@List.getElem?_cons_zero
def atM:=@List.getElem?_cons_succ
def atQ:=@PySem.wpAny_letOwnedTupleGo_enum
def atU:=@of_decide_eq_false
def atY:=@List.getLast?_eq_none_iff
def atZ:=@List.filter_eq_nil_iff
def at0:=@List.pairwise_filter
def at1:=@List.flatten_append
def at4:=@List.Sublist.nodup
def at5:=@Nat.mul_le_mul_right
def at7:=@Nat.and_one_is_mod
def at8:=@Nat.testBit_two_pow_self
def at9:=@Classical.not_forall
def aua:=@List.find?_cons_of_neg
def aub:=@Nat.pos_of_ne_zero
def auc:=@List.pairwise_lt_range
def aud:=@List.dropLast_concat
def auf:=@Nat.lt_or_eq_of_le
def auh:=@List.filterMap_eq_nil_iff
def aui:=@List.zipIdx_append
def auj:=@List.length_flatMap
def auk:=@List.sublist_cons_iff
def aul:=@List.pairwise_append
end A_
open A_
namespace OH
open PySem PySem.Calls PySem.W PyProof.Rows
def runT(j:String->Option Builtin)(P:Program)(W:World)(m:Nat)(q:Option Value):Nat->SharedT->Thread->Option SharedT
 |0,_,_=>none
 |k+1,x,y=>match through y with
  |true=>some x
  |false=>match stepOk m q y with
   |false=>none
   |true=>match stepT (denote j) P W x y with
    |some z=>runT j P W m q k z.1 z.2
    |none=>none
theorem abJ{j:String->Option Builtin}{P:Program}{W:World}{m:Nat}{q:Option Value}:∀(k:Nat)(x z:SharedT)(y:Thread),runT j P W m q k x y=Α z->topRun j P W m q k x.abs y=Α z.abs:=by
 intro k;induction k with
 |zero=>intro x z y h;cases h
 |succ k F=>
  intro x z y h;delta runT at h;ext topRun;cases e1:through y with
  |true=>
   rw[e1] at h;cases h;rfl
  |false=>
   rw[e1] at h;cases e2:stepOk m q y with
   |false=>rw[e2] at h;cases h
   |true=>
    rw[e2] at h;dsimp only at h⊢;cases e3:stepT (denote j) P W x y with
    |none=>rw[e3] at h;cases h
    |some v=>
     rw[e3] at h;rw[stepT_spec (s':=v.1) (t':=v.2) e3];exact F _ _ _ h
def treeOf(l:List Obj):BT:=(l.foldl (λ(x:BT×Nat)o=>(x.1.ins x.2 o,x.2+1)) (.nil,0)).1
def startT (W:World) (O:OsState):SharedT:=⟨treeOf (boot_heap W.params).objs.toList,(boot_heap W.params).objs.toList.length,(boot_heap W.params).life,Array.mk [],boot_drawn,boot_toks,O⟩
def z9 (W:World) (O:OsState):Shared:=⟨boot_heap W.params,Array.mk [],boot_drawn,boot_toks,O⟩
def abK(W:World)(O:OsState):(startT W O).abs=z9 W O:=by
 kernel_rfl
def keptAt (P:Program) (W:World) (x:Shared):Bool:=staticsOk Àl (boot_heap W.params) x.H&&namesBound P x.H&&gensDone x&&laidKept (boot_heap W.params) x.H
def looksAt (P Q:Program) (lo:List Str) (Xt:Shared->Bool) {α:Type} (Yf:Shared->α) (W:World) (x:Shared):=
 (keptAt P W x,openSeen Q lo Àl Xt true x,Yf x)
def abL{P:Program}{W:World}{N m:Nat}{q:Option Value}{O:OsState}{z:Shared}(j:((boot_heap W.params).isNs mainGlobals,(boot_heap W.params).O,(boot_heap W.params).nsMap mainGlobals "__annotations__")=(true,m,q))(run:topRun treeTable P W m q N (z9 W O) Èm=Α z) (kept:keptAt P W z=true):topFrom treeTable P W N (z9 W O)=Α z:=by
 let F:(boot_heap W.params).isNs mainGlobals=true:=b9 Prod.fst j;let J:(boot_heap W.params).O=m:=b9 (λx=>x.2.1) j;let M:(boot_heap W.params).nsMap mainGlobals "__annotations__"=q:=b9 (λx=>x.2.2) j;subst J;subst M;let g:((z9 W O).H.isNs mainGlobals&&(z9 W O).gens.size==0)=true:=by
  show((boot_heap W.params).isNs mainGlobals&&true)=true;rw[F];rfl
 ext topFrom;rw[g];show(topRun treeTable P W (boot_heap W.params).O ((boot_heap W.params).nsMap mainGlobals "__annotations__") N (z9 W O) Èm).bind _=Α z;rw[run];show(match keptAt P W z with|true=>some z|false=>none)=Α z;rw[kept]
def abM{P Q:Program}{lo:List Str}{Xt:Shared->Bool}{α:Type}{Yf:Shared->α}{Ya:World->α}{N:Nat}{m:Nat}{q:Option Value}{M:Nat}(e:opening P=plainProg P.main.scope.names) (hN:Nat.ble 600 N=true) (f:∀s,fenceModules? P s=Α s)(j:∀W:World,((boot_heap W.params).isNs mainGlobals,(boot_heap W.params).O,(boot_heap W.params).nsMap mainGlobals "__annotations__")=(true,m,q))(le:Nat.ble M N=true)(fin:∀(W:World)(O:OsState),(runT treeTable P W m q M (startT W O) Èm).M (λs=>looksAt P Q lo Xt Yf W s.abs)=Α (true,openGood Q lo,Ya W)):LeftO P Q lo Xt Yf Ya N:=by
 intro W;let((h,gs,d,k,O),o1,o2):=u0.mp (boot_open e hN f W);cases o2;let(z,r1,F):=u0.mp (fin W O);let J:=abJ _ _ _ _ r1;rw[abK] at J;let U:=topRun_mono (N-M) _ _ _ _ J;let hM:M+(N-M)=N:=Nat.add_sub_cancel' (Nat.le_of_ble_eq_true le);rw[hM] at U;let Y:keptAt P W z.abs=true:=b9 Prod.fst F;let Z:(openSeen Q lo Àl Xt true z.abs,Yf z.abs)=(openGood Q lo,Ya W):=b9 Prod.snd F;let t:topFrom treeTable P W N ⟨boot_heap W.params,Array.mk [],boot_drawn,boot_toks,O⟩=Α z.abs:=abL (j W) U Y;ext openEnds;rw[o1];show Option.map _ (topFrom treeTable P W N ⟨boot_heap W.params,Array.mk [],boot_drawn,boot_toks,O⟩)=_;rw[t];exact b9 some Z
lay_quick OH.runT
def abN(W:World):((boot_heap W.params).isNs mainGlobals,(boot_heap W.params).O,(boot_heap W.params).nsMap mainGlobals "__annotations__")=(true,11,some (.ref 6)):=by
 kernel_rfl
def abO{P Q:Program}{lo:List Str}{Xt:Shared->Bool}{α:Type}{Yf:Shared->α}{Ya:World->α}{N:Nat}(e:opening P=plainProg P.main.scope.names) (j:Nat.ble 600 N=true) (f:∀s,fenceModules? P s=Α s)(fin:∀(W:World)(O:OsState),(PySem.W.Fast.tw1264388230241321415 PySem.W.Fast.tw14364793385576792824 P W 11 (some (.ref 6)) N (startT W O) Èm).M (λs=>looksAt P Q lo Xt Yf W s.abs)=Α (true,openGood Q lo,Ya W)):LeftO P Q lo Xt Yf Ya N:=
 abM e j f abN (Nat.ble_eq_true_of_le (bA N)) λW O=>by
  rw[PySem.W.Fast.te1264388230241321415,PySem.W.Fast.te14364793385576792824];exact fin W O
end OH
namespace L2
open PySem PySem.Spec PyProof.Rows
def inClass(s:Stmt)(j:Nat):Stmt:=match s with
 |.ClassDef _ _ _ pj _ _ _ _ _ _ _=>pj.D j (.Pass ⟨0,0,0,0⟩)
 |_=>.Pass ⟨0,0,0,0⟩
def vd(s:Stmt):Arguments:=match s with
 |.FunctionDef _ a _ _ _ _ _ _ _ _=>a
 |_=>{posonlyargs:=[],args:=[],vararg:=Β,kwonlyargs:=[],kw_defaults:=[],kwarg:=Β,defaults:=[]}
def pz(s:Stmt):List Stmt:=match s with
 |.FunctionDef _ _ b _ _ _ _ _ _ _=>b
 |_=>[]
def ba(s:Stmt):Scope:=match s with
 |.FunctionDef _ _ _ _ _ _ sc _ _ _=>sc
 |_=>{kind:=.function,names:=[],isGenerator:=false,isCoroutine:=false}
end L2
namespace HD
open PySem PySem.Spec PyProof.Rows L2
def top(i:Nat):Stmt:=PySem.Challenge.pw_halfseendesk_s06_ask.main.body.getD i (.Pass ⟨0,0,0,0⟩)
@[reducible]def kf(n q:Str)(st:Stmt)(m c:Value):Obj:=⟨.type "function",none,.func (PySem.W.fnOf n q (vd st) Çd Âj .none .none .none m none c .none),#[]⟩
@[reducible]def ke(P:Params)(x:Str)(t:Nat)(v:Value):DictEntry:=⟨PyData.keyHash P x,.str x t,v⟩
@[reducible]def kc(n q:Str)(t:Nat)(l c:Int)(r:Nat)(x y:Value)(e:Nat)(d:Nat):Obj:=⟨.type "code",none,.fields #[.str n t,.str q (t+1),.str "/claim/cut.py" (t+2),.int l 0,.int c 0,.int 0 0,.int 0 0,.int 3 0,.ref r,.bool true,.int 181 0,.ref (r+1),.none,x,y,.ref e,.int d 0,.int l 0,.str "/claim/cut.py" (d+1)],#[]⟩
@[reducible]def kd(n:Str)(t:Nat)(l c:Int)(r:Nat)(x y:Value)(e:Nat)(d:Nat):Obj:=kc n n t l c r x y e d
@[reducible]def km(t:Nat):Str:=if t=187 then "halfseendesk.looks" else if t=214 then "halfseendesk.texts" else if t=292 then "halfseendesk.lockers" else if t=470 then "halfseendesk.platetexts" else if t=712 then "halfseendesk.sights" else if t=796 then "halfseendesk.asking" else if t=984 then "halfseendesk.displays" else if t=1092 then "halfseendesk.books" else if t=1232 then "halfseendesk.readings" else "halfseendesk.plates"
@[reducible]def kg(n:Str)(i t r:Nat):Obj:=kf n n (top i) (.str (km t) t) ϣ
@[reducible]def kr(P:Params)(x:Str)(t r:Nat):DictEntry:=ke P x t ϣ
@[reducible]def ki(P:Params)(x:Str)(v:Int)(t:Nat):DictEntry:=ke P x (t+1) (.int v t)
@[reducible]def kx(P:Params)(a m:Nat)(l:Int)(e r f:Nat):Obj:=⟨.type "dict",none,.dict #[ke P "__module__" a (.str (km m) m),ke P "__firstlineno__" (a+4) (.int l (a+3)),kr P "__init__" e r,kr P "__static_attributes__" f (r+1),kr P "__dict__" (f+2) (r+4),kr P "__weakref__" (f+4) (r+5),ke P "__doc__" (f+5) .none] 4,#[]⟩
@[reducible]def ky(P:Params)(a m:Nat)(l:Int)(r:Nat):Obj:=⟨.type "dict",none,.dict #[ke P "__module__" a (.str (km m) m),ke P "__firstlineno__" (a+4) (.int l (a+3)),kr P "__static_attributes__" (a+5) r,kr P "__weakref__" (a+7) (r+3),ke P "__doc__" (a+8) .none] 3,#[]⟩
@[reducible]def kt(n:Str)(r s t:Nat):Obj:=⟨.type "type",none,.cls ⟨n,[.type "object"],[.ref r,.type "object"],s,n,true,[],[],false,none,false⟩,#[none,none,some (.str n t),some (.str n (t+8)),some (.builtin "object.__new__"),some (.bool true)]⟩
@[reducible]def ku(n:Str)(r s x t:Nat):Obj:=⟨.type "type",none,.cls ⟨n,[.type "Exception"],[.ref r,.type "Exception",.type "BaseException",.type "object"],s,n,true,[],[],false,none,false⟩,#[some ŧ,none,some (.str n t),some (.str n (t+8)),some (.builtin "Exception.__new__"),some (.bool true)]⟩
@[reducible]def kj(q:Str)(i t r:Nat):Obj:=kf "__init__" q (inClass (top i) 0) (.str (km t) t) ϣ
@[reducible]def kh(q:Str)(t:Nat)(l c:Int)(r:Nat)(x y:Value)(e:Nat)(d:Nat):Obj:=kc "__init__" q t l c r x y e d
@[reducible]def kv(n:Str)(t:Nat)(l c:Int)(r d:Nat):Obj:=kd n t l c r (.ref (r+2)) (.ref (r+3)) (r+4) d
@[reducible]def kn(n:Str)(t:Nat)(l c:Int)(r d:Nat):Obj:=kh n t l c r (.ref (r+2)) (.ref (r+3)) (r+4) d
@[reducible]def kw(n:Str)(t:Nat)(l c:Int)(r d:Nat):Obj:=kd n t l c r .none .none (r+2) d
local macro_rules(kind:=Lean.Parser.Term.tuple)|x=>if x[1][0].isOfKind Lean.numLitKind then pure (x.setArg 1 (x[1].setArg 0 (MP_.mN `rawNatLit #[Lean.mkAtom "nat_lit",x[1][0]]))) else Lean.Macro.throwUnsupported
def kK (P:Params):PySem.W.Frag:=
 (3,⟨(.type "dict"),none,(.dict #[ke P "__name__" 165 (.str "halfseendesk.plates" 1323),ke P "__doc__" 166 .none,ke P "__package__" 167 .none,ke P "__loader__" 168 (.builtin "__main__.__loader__#opaque"),ke P "__spec__" 169 .none,kr P "__annotations__" 170 6,kr P "__builtins__" 171 4,ke P "__file__" 173 (.str "/claim/cut.py" 172),ke P "__cached__" 174 .none,kr P "SHAPES" 192 15,ki P "FRONT" 0 193,ki P "BEHIND" 1 195,ki P "CELLS" 16 197,ki P "ROW" 4 199,kr P "cell_behind" 207 22,kr P "cells_seen" 213 27,ki P "MOST_BYTES" 65536 216,ki P "LINE_END" 10 218,ki P "BLANK" 32 220,ke P "COLOUR_SIGNS" 223 (.str "0123456789abcdef" 222),ke P "NAME_SIGNS" 225 (.str "ABCDEFGHIJKLMNOPQRSTUVWXYZ0123456789" 224),ki P "LONGEST_NAME" 8 226,kr P "spelled" 233 32,kr P "cut" 243 39,kr P "whole_lines" 252 46,kr P "place_among" 262 53,kr P "places_in" 268 58,kr P "read_colours" 275 65,kr P "is_name" 282 72,kr P "name_behind" 291 79,ki P "SIGN" 0 294,ki P "SAME" 1 296,kr P "ROLES" 301 80,kr P "WORDS_OF_ROLES" 305 81,ki P "MOST_COPIES" 8 306,ki P "MOST_SAME" 4 308,ki P "MOST_SIGNS" 48 310,ki P "DIGIT_ZERO" 48 312,kr P "NoLocker" 333 91,kr P "Kind" 372 111,kr P "Locker" 403 132,kr P "read_locker" 409 141,kr P "read_name" 416 148,kr P "read_digit" 424 155,kr P "read_kind" 438 162,kr P "are_in_order" 444 687,kr P "are_in_order_lockers" 445 167,kr P "may_follow" 453 174,kr P "are_different" 459 179,kr P "has_twice" 465 184,ki P "MOST_HOISTS" 4 466,ki P "MOST_FLAGS" 8 468,kr P "SIDES" 475 185,ki P "UNKNOWN_SIDE" 2 476,kr P "HOIST_LINES" 482 186,kr P "SEEN_SHAPES" 487 187,ke P "SEEN_SIGNS" 489 (.str "0123456789abcdef?" 488),ki P "UNSEEN_SHAPE" 3 490,ki P "UNSEEN_CELL" 16 492,ki P "SIDE_LINE" 0 494,ki P "HOIST_LINE" 1 496,ki P "SHAPE_LINE" 2 498,ki P "CELLS_LINE" 3 500,ki P "NO_SUCH_LINE" 1 502,ki P "WRONG_PLACE" 2 504,kr P "NoPlate" 536 204,kr P "Sighting" 567 224,kr P "Glimpse" 600 245,kr P "Plate" 633 266,kr P "read_plate" 646 277,kr P "read_line" 656 284,kr P "read_side" 666 291,kr P "read_row" 673 298,kr P "may_stand" 681 305,kr P "lacks_flags" 688 312,kr P "lacks_cells" 695 319,kr P "has_whole_hoists" 702 326,kr P "put" 711 333,kr P "sighting_of" 722 340,kr P "View" 753 357,kr P "view_of" 759 366,kr P "kinds_along" 765 371,kr P "kinds_that_look_so" 771 376,kr P "may_be" 777 381,kr P "fits" 783 386,kr P "hoist_fits" 789 391,kr P "fits_at" 795 396,ki P "MOST_FLAGS_ASKED" 12 798,ki P "MOST_READINGS_ASKED" 64 800,kr P "CutOff" 821 406,kr P "NoReading" 841 419,kr P "TooMuchToAsk" 861 432,kr P "NeverSettled" 881 445,kr P "Appearance" 912 465,kr P "fewest_flags" 918 474,kr P "bits_of_flags" 924 479,kr P "appearances_of" 936 486,kr P "flags_seen" 942 491,kr P "differences_among" 954 498,kr P "difference" 960 503,kr P "choices_of" 966 508,kr P "settles" 975 515,kr P "how_many" 983 522,kr P "Plan" 1018 539,kr P "display_told" 1024 548,kr P "copies_lacking" 1030 553,kr P "sames_along" 1036 558,kr P "bits_of_sames" 1042 563,kr P "places_of" 1055 570,kr P "plan_of" 1061 575,kr P "places_outside" 1067 580,kr P "copies_in" 1073 585,kr P "hoist_told" 1079 590,kr P "flag_told" 1085 595,kr P "hang" 1091 600,ki P "TITLE_LINES" 2 1094,ki P "MOST_ENTRIES" 2048 1096,ki P "LONGEST_MEANING" 64 1098,ki P "FULL_STOP" 46 1100,ki P "LAST_PRINTED" 126 1102,kr P "NoBook" 1123 610,kr P "Entry" 1154 630,kr P "Book" 1185 651,kr P "read_book" 1191 660,kr P "numbers_of_signs" 1197 665,kr P "read_entry" 1206 672,kr P "read_signs" 1212 677,kr P "read_meaning" 1218 682,kr P "are_in_order_books" 1225 687,kr P "can_be_shown" 1231 692,ki P "MOST_IN_DOUBT" 1024 1234,kr P "TooMuchInDoubt" 1255 702,kr P "Reading" 1288 722,kr P "readings_of" 1294 731,kr P "entries_in_doubt" 1300 736,kr P "product" 1309 743,kr P "all_rows" 1315 748,kr P "sides_of" 1322 755,kr P "Finding" 1359 772,kr P "ask" 1368 783,kr P "ask_told" 1376 790,kr P "answered" 1387 797,kr P "found" 1399 804] 143),#[]⟩)::
 (15,⟨(.type "tuple"),none,(.seq #[(.str "square" 189),(.str "tails" 190),(.str "long" 191)] 0),#[]⟩)::
 (21,kv "cell_behind" 201 7 1 16 205)::
 (22,kg "cell_behind" 6 187 21)::
 (26,kw "cells_seen" 208 9 3 23 211)::
 (27,kg "cells_seen" 7 187 26)::
 (31,kw "spelled" 228 20 1 28 231)::
 (32,kg "spelled" 15 214 31)::
 (38,kv "cut" 234 22 2 33 241)::
 (39,kg "cut" 16 214 38)::
 (45,kv "whole_lines" 244 30 1 40 250)::
 (46,kg "whole_lines" 17 214 45)::
 (52,kv "place_among" 253 34 2 47 260)::
 (53,kg "place_among" 18 214 52)::
 (57,kw "places_in" 263 39 2 54 266)::
 (58,kg "places_in" 19 214 57)::
 (64,kv "read_colours" 269 44 1 59 273)::
 (65,kg "read_colours" 20 214 64)::
 (71,kv "is_name" 276 48 1 66 280)::
 (72,kg "is_name" 21 214 71)::
 (78,kv "name_behind" 283 50 2 73 289)::
 (79,kg "name_behind" 22 214 78)::
 (80,⟨(.type "tuple"),none,(.seq #[(.str "sign" 298),(.str "same" 299),(.str "answer" 300)] 0),#[]⟩)::
 (81,⟨(.type "tuple"),none,(.seq #[(.int 5 302),(.int 5 303),(.int 4 304)] 0),#[]⟩)::
 (90,ky P 321 292 64 89)::
 (91,ku "NoLocker" 91 90 82 314)::
 (107,kn "Kind.__init__" 346 68 7 102 356)::
 (108,kj "Kind.__init__" 33 292 107)::
 (110,kx P 341 292 66 358 108 365)::
 (111,kt "Kind" 111 110 334)::
 (128,kn "Locker.__init__" 385 77 3 123 391)::
 (129,kj "Locker.__init__" 34 292 128)::
 (131,kx P 380 292 75 393 129 396)::
 (132,kt "Locker" 132 131 373)::
 (140,kw "read_locker" 404 80 1 137 407)::
 (141,kg "read_locker" 35 292 140)::
 (147,kv "read_name" 410 89 1 142 414)::
 (148,kg "read_name" 36 292 147)::
 (154,kv "read_digit" 417 93 2 149 422)::
 (155,kg "read_digit" 37 292 154)::
 (161,kv "read_kind" 425 97 1 156 436)::
 (162,kg "read_kind" 38 292 161)::
 (166,kw "are_in_order" 439 110 1 163 442)::
 (167,kg "are_in_order" 39 292 166)::
 (173,kv "may_follow" 446 116 2 168 451)::
 (174,kg "may_follow" 41 292 173)::
 (178,kw "are_different" 454 120 1 175 457)::
 (179,kg "are_different" 42 292 178)::
 (183,kw "has_twice" 460 124 1 180 463)::
 (184,kg "has_twice" 43 292 183)::
 (185,⟨(.type "tuple"),none,(.seq #[(.str "front" 472),(.str "behind" 473),(.str "unknown" 474)] 0),#[]⟩)::
 (186,⟨(.type "tuple"),none,(.seq #[(.str "hoist" 478),(.str "hoist above" 479),(.str "hoist below" 480),(.str "hoist above below" 481)] 0),#[]⟩)::
 (187,⟨(.type "tuple"),none,(.seq #[(.str "square" 483),(.str "tails" 484),(.str "long" 485),(.str "shape?" 486)] 0),#[]⟩)::
 (200,kn "NoPlate.__init__" 518 144 3 195 524)::
 (201,kj "NoPlate.__init__" 60 470 200)::
 (203,⟨(.type "dict"),none,(.dict #[ke P "__module__" 513 (.str "halfseendesk.platetexts" 470),ke P "__firstlineno__" 517 (.int 142 516),ke P "__init__" 526 (.ref 201),ke P "__static_attributes__" 529 (.ref 202),ke P "__weakref__" 531 (.ref 205),ke P "__doc__" 532 .none] 3),#[]⟩)::
 (204,ku "NoPlate" 204 203 188 506)::
 (220,kn "Sighting.__init__" 549 150 3 215 555)::
 (221,kj "Sighting.__init__" 61 470 220)::
 (223,kx P 544 470 148 557 221 560)::
 (224,kt "Sighting" 224 223 537)::
 (241,kn "Glimpse.__init__" 580 155 4 236 587)::
 (242,kj "Glimpse.__init__" 62 470 241)::
 (244,kx P 575 470 153 589 242 593)::
 (245,kt "Glimpse" 245 244 568)::
 (262,kn "Plate.__init__" 613 161 4 257 620)::
 (263,kj "Plate.__init__" 63 470 262)::
 (265,kx P 608 470 159 622 263 626)::
 (266,kt "Plate" 266 265 601)::
 (276,kv "read_plate" 634 165 1 271 644)::
 (277,kg "read_plate" 64 470 276)::
 (283,kv "read_line" 647 181 1 278 654)::
 (284,kg "read_line" 65 470 283)::
 (290,kv "read_side" 657 187 1 285 664)::
 (291,kg "read_side" 66 470 290)::
 (297,kv "read_row" 667 196 1 292 671)::
 (298,kg "read_row" 67 470 297)::
 (304,kv "may_stand" 674 200 2 299 679)::
 (305,kg "may_stand" 68 470 304)::
 (311,kv "lacks_flags" 682 208 1 306 686)::
 (312,kg "lacks_flags" 69 470 311)::
 (318,kv "lacks_cells" 689 210 1 313 693)::
 (319,kg "lacks_cells" 70 470 318)::
 (325,kv "has_whole_hoists" 696 214 1 320 700)::
 (326,kg "has_whole_hoists" 71 470 325)::
 (332,kv "put" 703 216 3 327 709)::
 (333,kg "put" 72 470 332)::
 (339,kv "sighting_of" 714 227 3 334 720)::
 (340,kg "sighting_of" 74 712 339)::
 (353,kn "View.__init__" 735 231 3 348 741)::
 (354,kj "View.__init__" 75 712 353)::
 (356,kx P 730 712 229 743 354 746)::
 (357,kt "View" 357 356 723)::
 (365,kw "view_of" 754 234 3 362 757)::
 (366,kg "view_of" 76 712 365)::
 (370,kw "kinds_along" 760 237 2 367 763)::
 (371,kg "kinds_along" 77 712 370)::
 (375,kw "kinds_that_look_so" 766 239 2 372 769)::
 (376,kg "kinds_that_look_so" 78 712 375)::
 (380,kw "may_be" 772 241 2 377 775)::
 (381,kg "may_be" 79 712 380)::
 (385,kw "fits" 778 245 3 382 781)::
 (386,kg "fits" 80 712 385)::
 (390,kw "hoist_fits" 784 247 3 387 787)::
 (391,kg "hoist_fits" 81 712 390)::
 (395,kw "fits_at" 790 252 3 392 793)::
 (396,kg "fits_at" 82 712 395)::
 (405,ky P 809 796 257 404)::
 (406,ku "CutOff" 406 405 397 802)::
 (418,ky P 829 796 259 417)::
 (419,ku "NoReading" 419 418 410 822)::
 (431,ky P 849 796 261 430)::
 (432,ku "TooMuchToAsk" 432 431 423 842)::
 (444,ky P 869 796 263 443)::
 (445,ku "NeverSettled" 445 444 436 862)::
 (461,kn "Appearance.__init__" 894 267 3 456 900)::
 (462,kj "Appearance.__init__" 90 796 461)::
 (464,kx P 889 796 265 902 462 905)::
 (465,kt "Appearance" 465 464 882)::
 (473,kw "fewest_flags" 913 270 3 470 916)::
 (474,kg "fewest_flags" 91 796 473)::
 (478,kw "bits_of_flags" 919 283 1 475 922)::
 (479,kg "bits_of_flags" 92 796 478)::
 (485,kv "appearances_of" 925 288 3 480 934)::
 (486,kg "appearances_of" 93 796 485)::
 (490,kw "flags_seen" 937 294 4 487 940)::
 (491,kg "flags_seen" 94 796 490)::
 (497,kv "differences_among" 943 299 2 492 952)::
 (498,kg "differences_among" 95 796 497)::
 (502,kw "difference" 955 306 3 499 958)::
 (503,kg "difference" 96 796 502)::
 (507,kw "choices_of" 961 308 1 504 964)::
 (508,kg "choices_of" 97 796 507)::
 (514,kv "settles" 967 313 2 509 973)::
 (515,kg "settles" 98 796 514)::
 (521,kv "how_many" 976 318 1 516 981)::
 (522,kg "how_many" 99 796 521)::
 (535,kn "Plan.__init__" 998 327 4 530 1005)::
 (536,kj "Plan.__init__" 101 984 535)::
 (538,kx P 993 984 325 1007 536 1011)::
 (539,kt "Plan" 539 538 986)::
 (547,kw "display_told" 1019 331 2 544 1022)::
 (548,kg "display_told" 102 984 547)::
 (552,kw "copies_lacking" 1025 341 2 549 1028)::
 (553,kg "copies_lacking" 103 984 552)::
 (557,kw "sames_along" 1031 347 3 554 1034)::
 (558,kg "sames_along" 104 984 557)::
 (562,kw "bits_of_sames" 1037 349 4 559 1040)::
 (563,kg "bits_of_sames" 105 984 562)::
 (569,kv "places_of" 1043 352 2 564 1053)::
 (570,kg "places_of" 106 984 569)::
 (574,kw "plan_of" 1056 358 4 571 1059)::
 (575,kg "plan_of" 107 984 574)::
 (579,kw "places_outside" 1062 367 2 576 1065)::
 (580,kg "places_outside" 108 984 579)::
 (584,kw "copies_in" 1068 369 3 581 1071)::
 (585,kg "copies_in" 109 984 584)::
 (589,kw "hoist_told" 1074 371 3 586 1077)::
 (590,kg "hoist_told" 110 984 589)::
 (594,kw "flag_told" 1080 373 3 591 1083)::
 (595,kg "flag_told" 111 984 594)::
 (599,kw "hang" 1086 381 4 596 1089)::
 (600,kg "hang" 112 984 599)::
 (609,ky P 1111 1092 397 608)::
 (610,ku "NoBook" 610 609 601 1104)::
 (626,kn "Entry.__init__" 1136 401 3 621 1142)::
 (627,kj "Entry.__init__" 120 1092 626)::
 (629,kx P 1131 1092 399 1144 627 1147)::
 (630,kt "Entry" 630 629 1124)::
 (647,kn "Book.__init__" 1167 406 3 642 1173)::
 (648,kj "Book.__init__" 121 1092 647)::
 (650,kx P 1162 1092 404 1175 648 1178)::
 (651,kt "Book" 651 650 1155)::
 (659,kw "read_book" 1186 409 2 656 1189)::
 (660,kg "read_book" 122 1092 659)::
 (664,kw "numbers_of_signs" 1192 421 1 661 1195)::
 (665,kg "numbers_of_signs" 123 1092 664)::
 (671,kv "read_entry" 1198 423 2 666 1204)::
 (672,kg "read_entry" 124 1092 671)::
 (676,kw "read_signs" 1207 428 2 673 1210)::
 (677,kg "read_signs" 125 1092 676)::
 (681,kw "read_meaning" 1213 433 1 678 1216)::
 (682,kg "read_meaning" 126 1092 681)::
 (686,kw "are_in_order" 1219 439 1 683 1222)::
 (687,kg "are_in_order" 127 1092 686)::
 (691,kw "can_be_shown" 1226 443 2 688 1229)::
 (692,kg "can_be_shown" 129 1092 691)::
 (701,ky P 1243 1232 447 700)::
 (702,ku "TooMuchInDoubt" 702 701 693 1236)::
 (718,kn "Reading.__init__" 1268 451 4 713 1275)::
 (719,kj "Reading.__init__" 133 1232 718)::
 (721,kx P 1263 1232 449 1277 719 1281)::
 (722,kt "Reading" 722 721 1256)::
 (730,kw "readings_of" 1289 455 3 727 1292)::
 (731,kg "readings_of" 134 1232 730)::
 (735,kw "entries_in_doubt" 1295 467 2 732 1298)::
 (736,kg "entries_in_doubt" 135 1232 735)::
 (742,kv "product" 1301 472 1 737 1307)::
 (743,kg "product" 136 1232 742)::
 (747,kw "all_rows" 1310 477 1 744 1313)::
 (748,kg "all_rows" 137 1232 747)::
 (754,kv "sides_of" 1316 487 1 749 1320)::
 (755,kg "sides_of" 138 1232 754)::
 (768,kn "Finding.__init__" 1337 492 5 763 1345)::
 (769,kj "Finding.__init__" 140 1323 768)::
 (771,kx P 1332 1323 490 1347 769 1352)::
 (772,kt "Finding" 772 771 1325)::
 (782,kv "ask" 1360 497 3 777 1366)::
 (783,kg "ask" 141 1323 782)::
 (789,kv "ask_told" 1369 499 1 784 1374)::
 (790,kg "ask_told" 142 1323 789)::
 (796,kv "answered" 1377 511 4 791 1385)::
 (797,kg "answered" 143 1323 796)::
 (803,kv "found" 1388 525 3 798 1397)::
 (804,kg "found" 144 1323 803)::[]
def kA:List Addr:=[3,15,21,22,26,27,31,32,38,39,45,46,52,53,57,58,64,65,71,72,78,79,80,81,90,91,107,108,110,111,128,129,131,132,140,141,147,148,154,155,161,162,166,167,173,174,178,179,183,184,185,186,187,200,201,203,204,220,221,223,224,241,242,244,245,262,263,265,266,276,277,283,284,290,291,297,298,304,305,311,312,318,319,325,326,332,333,339,340,353,354,356,357,365,366,370,371,375,376,380,381,385,386,390,391,395,396,405,406,418,419,431,432,444,445,461,462,464,465,473,474,478,479,485,486,490,491,497,498,502,503,507,508,514,515,521,522,535,536,538,539,547,548,552,553,557,558,562,563,569,570,574,575,579,580,584,585,589,590,594,595,599,600,609,610,626,627,629,630,647,648,650,651,659,660,664,665,671,672,676,677,681,682,686,687,691,692,701,702,718,719,721,722,730,731,735,736,742,743,747,748,754,755,768,769,771,772,782,783,789,790,796,797,803,804]
def kQ:Program:=PySem.W.view PySem.Challenge.pw_halfseendesk_s06_ask [1,2,3,4,5,6,7,9,10,11,12,13,14,15,16,17,18,19,20,21,22,24,25,26,27,28,29,30,31,32,33,34,35,36,37,38,40,41,42,43,44,45,47,48,49,50,51,52,53,54,55,56,57,58,59,60,61,62,63,64,65,66,67,68,69,70,71,72,74,75,76,77,78,79,80,81,82,84,85,86,87,88,89,90,91,92,93,94,95,96,97,98,99,101,102,103,104,105,106,107,108,109,110,111,112,114,115,116,117,118,119,120,121,122,123,124,125,126,127,128,129,131,132,133,134,135,136,137,138,140,141,142,143,144]
def kE(P:Params):kA=(kK P).M (·.1):=by kernel_rfl
abbrev kL:List Str:=["are_in_order_lockers","are_in_order_books"]
abbrev kX:Shared->Bool:=λs=>PySem.W.xlAt kQ [] s&&PySem.W.recOk [] s
abbrev kR (w:World) (os:OsState):=PySem.W.Fast.tw1264388230241321415 PySem.W.Fast.tw14364793385576792824 PySem.Challenge.pw_halfseendesk_s06_ask w 11 (some (.ref 6)) 13806 (OH.startT w os) (PySem.W.topStub PySem.Challenge.pw_halfseendesk_s06_ask)
section
open PySem.Calls PySem.W
@[reducible] def Se:OpenLaw:=⟨PySem.Challenge.pw_halfseendesk_s06_ask,"",[],0,none,none,true⟩
abbrev B8:List Str:=["are_in_order_lockers","are_in_order_books","SHAPES","ROLES","WORDS_OF_ROLES","SIDES","HOIST_LINES","SEEN_SHAPES"]
def kZN:looseW kQ kL=B8:=by kernel_rfl
def l5(w:World)(os:OsState):(kR w os).M (λs=>(s.abs.H.bltView,plainSeenD kQ kL s.abs,clsSeenW kQ kL s.abs,(s.abs.H.accountedOkI (importedModules PySem.Challenge.pw_halfseendesk_s06_ask.main.body),s.abs.H.isNs mainGlobals,s.abs.H.isNs builtinsNs),(kX s.abs,s.abs.gens.u==0),OH.keptAt PySem.Challenge.pw_halfseendesk_s06_ask w s.abs,pinSeenD kQ (drecsOf kQ) s.abs,Hook.obs Ãe s.abs))=Α (bltViewBooted,plainGoodD kQ kL,clsGoodW kQ kL,(true,true,true),(true,true),true,pinGoodD (drecsOf kQ),Hook.val Ãe w):=by kernel_rfl
def mQ(w:World)(os:OsState):(kR w os).M (λs=>(seen ((recsOf kQ).M (·.name)) (ownsOf kQ) [] {s.abs with gens:= #[]},plainSeenE kQ B8 s.abs))=Α (expectedOf kQ,plainGoodE kQ B8):=by kernel_rfl
def qz(w:World)(os:OsState):(kR w os).M (λs=>(s.abs.H.keysOk B8 ((recsOf kQ).M (·.name)) ((litsOf kQ).M (·.1)) ((clssOf kQ B8).M (·.name)),tablesOk kQ s.abs.H))=Α (true,true):=by kernel_rfl
def qA(w:World)(os:OsState):(kR w os).M (λs=>(tabsOk kQ s.abs))=Α (true):=by kernel_rfl
def hp4(w:World)(os:OsState):(kR w os).M (λs=>(wideSeen kQ s.abs))=Α (wideGood kQ):=by kernel_rfl
def oq{α β:Type}{x:Option α}{z:α}{f:α->β}{b:β}(r:x=Α z)(h:x.M f=Α b):f z=b:=by
 rw[r] at h;exact aQ h
def abR{A B C D E F G H I J K:Type}{a M:A}{b O:B}{c U:C}{d d':D}{e W:E}{f Y:F}{g g':G}{h h':H}{i Z:I}{j j':J}{k k':K}(h1:a=M)(h2:b=O)(h3:c=U)(h4:d=d')(h5:e=W)(h6:f=Y)(h7:g=g')(h8:h=h')(h9:i=Z)(q:j=j')(z:k=k'):
  (a,(b,c,d,e,f,g,h,i,j),k)=(M,(O,U,d',W,Y,g',h',Z,j'),k'):=by
 cases h1;cases h2;cases h3;cases h4;cases h5;cases h6;cases h7;cases h8;cases h9;cases q;cases z;rfl
def abU:LeftO PySem.Challenge.pw_halfseendesk_s06_ask kQ kL kX (Hook.obs Ãe) (Hook.val Ãe) 13806:=
 OH.abO (by kernel_rfl) Ð (λs=>by kernel_rfl) λw os=>by
  let(z,r,_):=u0.mp (l5 w os);rw[show PySem.W.Fast.tw1264388230241321415 PySem.W.Fast.tw14364793385576792824 PySem.Challenge.pw_halfseendesk_s06_ask w 11 (some (.ref 6)) 13806 (OH.startT w os) (PySem.W.topStub PySem.Challenge.pw_halfseendesk_s06_ask)=Α z from r];let j:=oq r (l5 w os);let Y:=b9 (λx=>x.1) j;let Z:=b9 (λx=>x.2.1) j;let abX:=b9 (λx=>x.2.2.1) j;let J:=b9 (λx=>x.2.2.2.1) j;let Sf:=b9 (λx=>x.2.2.2.2.1) j;let abY:=b9 (λx=>x.2.2.2.2.2.1) j;let abZ:=b9 (λx=>x.2.2.2.2.2.2.1) j;let q:=b9 (λx=>x.2.2.2.2.2.2.2) j;let g1:=oq r (mQ w os);let F:=b9 (λx=>x.1) g1;let Sg:=b9 (λx=>x.2) g1;let g2:=oq r (qz w os);let Si:=b9 (λx=>x.1) g2;let M:=b9 (λx=>x.2) g2;let g3:=oq r (qA w os);let O:=g3;let g4:=oq r (hp4 w os);let U:=g4;rw[<-kZN] at Si Sg;dsimp only at*;apply b9 some (abR abY F Y ?_ O abZ Sg Z U abX q);let a1:=b9 (λx=>x.1) J;let a2:=b9 (λx=>x.2.1) J;let a3:=b9 (λx=>x.2.2) J;let b1:=b9 (λx=>x.1) Sf;let b2:=b9 (λx=>x.2) Sf;dsimp only at a1 a2 a3 b1 b2;show(_&&_&&_&&_&&_&&_&&(z.abs.gens.u==0))=true;rw[Si,a1,a2,a3,M,b1,b2];rfl
end
end HD
abbrev LI:=List Int
abbrev LN:=List Nat
abbrev bf:=List (List Nat)
abbrev dJ:=List (List Int)
abbrev FR:=PySem.W.Frag
abbrev MG:=PySem.Str->Option PySem.Value
abbrev OA:=Option PySem.Addr
abbrev LV:=List PySem.Value
abbrev LS:=List PySem.Str
abbrev AO:=Array (Option PySem.Value)
abbrev VP:=PySem.Value->PySem.Shared->Prop
abbrev cb:=List (PySem.Addr×PySem.Obj)
abbrev cE:=List (Nat×Nat)
abbrev gr:=List (PySem.Str×PySem.Addr)
abbrev LA:=List PySem.Addr
abbrev Sh:=PySem.Shared
abbrev Pg:=PySem.Program
abbrev Wd:=PySem.World
abbrev FD:=PySem.FuncData
namespace PySem
namespace XL
abbrev rL(C t:Addr):Obj:={cls:=.ref C,data:=.fields #[.ref t,.none,.none,.none,.bool false,.none]}
abbrev pA(b7:LV):Obj:={cls:=.type "tuple",data:=.seq b7.toArray}
def ab5(x:Addr)(R:Result->Shared->Prop)(r:Result)(s':Sh):Prop:=match r with
 |.ok (.ret v)=>v=.none/\R (.ok (.ret ŧ)) s'
 |.ok _=>False
 |.error e=>R Ϯ s'
section
variable{prog:Pg}{w:Wd}{A:Around}{E:VP}{h:Heap}{g:Array GenState}{d:Drawn}{t:Nat}{os:OsState}
def ab6(F:ExcBaseFacts B newId initId bm)(j:h.I C=Α Ě) (hn:h.Ns N mN) (yn:mN "__init__"=Α (.ref fI)) (Z:h.I fI=Α oF) (W:oF.cls=.type "function")(hq:codeAny Í A (.call (.ref fI) ⟨.ref (h.O+1)::b7,[]⟩) (λr s'=>match r with
   |.ok (.ret v)=>v=.none/\Q (.done (.ret (.ref (h.O+1)))) s'
   |.ok _=>False
   |.error e=>E e s') ⟨(h.push (pA b7)).push Ō,g,d,t,os⟩) (hrest:b7.L<=sizeLine:=by size_fits):
  wpAny Í A (Builtin.«type.__call__» ⟨.ref C::b7,[]⟩) Q E ⟨h,g,d,t,os⟩:=by
 repeat (first|with_reducible apply u4 j ?_|with_reducible apply wpAny_madeBy_exc j ?_|wp_step)
 apply codeAny_call_builtin_code (Code.quiet_builtin _ F.quiet) (wpAny_check_new_sub F j ?_);apply codeAny_exc_new_sub F j ?_ hrest;let J:=du Ō (du (pA b7) j);let O:=du Ō (du (pA b7) Z);let U:((h.push (pA b7)).push Ō).Ns N mN:=
  let ⟨o,es,ep,e,r⟩:=hn;⟨o,es,ep,du _ (du _ e),r⟩
 let M:((h.push (pA b7)).push Ō).I (h.O+1)=Α Ō:=by heap_get
 let Y:(Value.ref C::bm).Y Ĉ=true:=by simp
 ext isInstance
 repeat (first|with_reducible apply u4 M ?_|(with_reducible apply Rv J ?_;rw[Y])|wp_step)
 apply aaS J U F.mroIs F.init.Q ?_;rw[yn];apply Fb (aF ?_);ext bindSpecial typeOf
 repeat (first|(with_reducible apply u4 O ?_;rw[W])|wp_step)
 apply yf hq λr s' z=>?_;rcases r with e|(_|v|_|_) <;> first|exact z|exact z.elim|skip
 all_goals (let(rfl,z):=z;exact cV (cV z))
def ab8(F:ExcBaseFacts B newId initId bm)(j:h.I C=Α Ě) (O:h.Ns N mN) (Y:mN "__init__"=Α (.ref fI)) (M:h.I fI=Α oF) (J:oF.cls=.type "function")(U:codeAny Í (A.under (.builtin "type.__call__" ⟨.ref C::b7,[]⟩)) (.call (.ref fI) ⟨.ref (h.O+1)::b7,[]⟩) (ab5 (h.O+1) R) ⟨(h.push (pA b7)).push Ō,g,d,t,os⟩) (hrest:b7.L<=sizeLine:=by size_fits):
  codeAny Í A (.call Ĉ ⟨b7,[]⟩) R ⟨h,g,d,t,os⟩:=by
 let W:=tc_lookup;let Z:=tc_bind Ĉ;let hT:(⟨h,g,d,t,os⟩:Sh).TypeIs Ĉ "type":=⟨_,j,rfl⟩;apply codeAny_of_tree ?_
 repeat (any_goals (first|assumption|with_reducible apply u4 j ?_|wp_step))
 refine Ţ;apply codeAny_call_builtin_at (Code.quiet_builtin _ É) entry_typeCall (wpAny_check_type_call_sub j (ab6 (hrest:=hrest) F j O Y M J (yf U λr s' z=>?_)));rcases r with e|(_|v|_|_) <;> exact z
end
def ab9(ve:bm.Y (.type "BaseException")=true)(hh:A.handled=Β)(h:ϐ x (λv j=>∃e O vs,v=.ref e/\j.U C=Α Ě/\
   j.U e=Α O/\O.cls=.ref C/\O.data=.fields vs/\vs[1]? =Α .none/\E Ém j) E s):
  wpAny M A (raiseStmt env (some x) none) Q E s:=by
 let J:(Value.ref C::bm).Y (.type "BaseException")=true:=by rw[BQ,ve,aaT]
 ext raiseStmt;apply aF (jD h (λv j h₁=>?_) λ_ _ x=>x);let(e,O,vs,rfl,z,Z,F,hd,W,Y):=h₁;let(hp,g,d,tk,os):=j;let(oc,od,U,pB):=O;obtain rfl:oc=.ref C:=F;obtain rfl:U=.fields vs:=hd
 repeat (first|with_reducible apply u4 Z ?_|with_reducible apply u4 z ?_|(with_reducible apply Rv z ?_;rw[J])|wp_step)
 rw[W];apply cV ?_;rw[ag Ñ];exact cV (wpAny_raiseNew_none hh Y)
section
variable{prog:Pg}{w:Wd}{A:Around}{E:VP}{h:Heap}{g:Array GenState}{d:Drawn}{t:Nat}{os:OsState}
def aca(F:ExcBaseFacts B newId initId bm)(J:h.I C=Α ù) (z:h.I x=Α oe) (hc:oe.cls=.ref C) (hd:oe.data=.fields vs) (hz:0<vs.u)(M:Q .none ⟨(h.push (pA [])).update x (Obj.mapFields (·.setIfInBounds 0 (.ref h.O))),g,d,t,os⟩):
  wpAny Í A (call (.builtin initId) [.ref x]) Q E ⟨h,g,d,t,os⟩:=by
 let j:=du (pA []) z;apply Fc (codeAny_call_builtin F.init.plain F.initEntry (wpAny_check_init_sub F J z hc ?_));delta Builtin.«BaseException.__init__»
 repeat (any_goals (first|assumption|wp_step))
 rw[hd];apply cV ?_;rw[show vs[0]? =Α vs[0] from Array.getElem?_eq_getElem hz];apply cV (aF (Fd j hd hz ?_));cases vs[0] <;> (wp_walk;exact M)
end
end XL
end PySem
namespace PySem
namespace XL
structure J2(fr:LA)(z e T:Addr)(oe:Obj)(fl:Value)(h h':Heap):Prop where
 new:h.O<=T
 ne:T≠e
 keep:∀b o,b∉fr->b≠e->b≠z->h.I b=Α o->h'.I b=Α o
 slot:∀b o,b∈fr->b≠e->b≠z->h.I b=Α o->∃sl,h'.I b=Α {o with slots:=sl}
 exc:h'.I e=Α (oe.mapFields (·.setIfInBounds 1 ų))
 ent:∃oT ts,h'.I T=Α oT/\oT.data=.fields ts/\ts[3]? =Α fl
def Sj{base:Heap}{env:Env}{outer:List Env}{L e z:Addr}{O:Obj}{vs:Array Value}{head:Value}{hn:Bool}{Q:Unit->Shared->Prop}(fs:A.frames=Α (env::outer)) (U:s.H.FunFrames base (env::outer)) (Y:env.frame=Α L) (ge:s.U e=Α O) (J:O.data=.fields vs) (ze:1<vs.u)(k:∀h' T,J2 ((env::outer).filterMap (·.frame)) z e T O Çb s.H h'->Q () {s with heap:=h'}):
  wpAny M A (do
   let a <-frameOf env
   let pl <-entryPlaceOf L hn
   let b <-EntryCells.newEntry head a .none Çb .none pl
   setField Ém 1 b) Q E s:=by
 let nf:e∉(env::outer).filterMap (·.frame):=λm=>by
  let(_,o,j,g2):=U.mem m;symm
 apply aF (wpAny_frameOf_fun fs U Y λg gs=>aF (wpAny_entryPlaceOf λpl hp=>?_));ext EntryCells.newEntry newFields;apply aF (Jx ?_ (hp.sizeOk5 _ _ _ _ _));let j:=(gs.2.1 e nf).R ge;let g2:=du (h:=g) {cls:=.type "traceback",dict:=Β,data:=.fields ([head,.ref L,.none,rawInt L,.none]++(if pl.isEmpty then List.replicate 6 Value.none else pl)).toArray} j;let te:=u5 (dh j);apply Fd g2 J ze (k _ g.O ⟨Fe gs.1.symm,te,λb o W F _ q=>?_,λb o W F _ q=>?_,?_,?_⟩)
 .rw[kW _ _ (eE F)];exact du _ ((gs.2.1 b W).R q)
 .let(sl,Z):=gs.2.2 b o q;exact(sl,by rw[kW _ _ (eE F)];exact du _ Z)
 .exact u6 _ g2 (Jy (wB J _))
 .apply(_,_,(kW _ _ (eE te)).R (ia g Á),Á,?_);rfl
def acb{base:Heap}{env:Env}{outer:List Env}{L e z:Addr}{O:Obj}{vs:Array Value}{Q:Unit->Shared->Prop}(fs:A.frames=Α (env::outer)) (U:s.H.FunFrames base (env::outer)) (F:env.frame=Α L) (q:s.U e=Α O) (j:O.data=.fields vs) (J:vs[1]? =Α .none)(k:∀h' T,J2 ((env::outer).filterMap (·.frame)) z e T O Çb s.H h'->Q () {s with heap:=h'}):ϐ (noteFrame Ém env) Q E s:=by
 ext noteFrame;simp only[F];apply aF (wC q j J ?_);rw[ag Ñ];exact Sj fs U F q j (BR.mp J).1 k
def acd{base:Heap}{env:Env}{outer:List Env}{L e z:Addr}{oe oz:Obj}{vs zs:Array Value}{Q:Unit->Shared->Prop}(fs:A.frames=Α (env::outer)) (ff:s.H.FunFrames base (env::outer)) (fL:env.frame=Α L) (ge:s.U e=Α oe) (de:oe.data=.fields vs) (h1:vs[1]? =Α (.ref z))(O:s.U z=Α oz) (J:oz.data=.fields zs) {fl:Value} (h3:zs[3]? =Α fl) (fY:(fl==rawInt L)=false) (Y:z≠e)(k:∀h' T,J2 ((env::outer).filterMap (·.frame)) z e T oe Çb s.H h'->T≠z->(∃o ts,h'.I z=Α o/\o.data=.fields ts/\ts[3]? =Α .none)->Q () {s with heap:=h'}):ϐ (noteFrame Ém env) Q E s:=by
 let zz:=(BR.mp h3).1;ext noteFrame;simp only[fL];apply aF (wC ge de h1 ?_);rw[ah (show(Value.ref z !=Value.none)=true by simp)];apply aF (wC O J h3 ?_);rw[ag (show ¬((fl==rawInt L)=true) by simp_all)];apply aF (Fd O J zz ?_);let U:∀b,b≠z->(s.H.update z (Obj.mapFields (·.setIfInBounds 3 Value.none))).I b=s.U b:=λb n=>kW _ _ (eE n);let gz':(s.H.update z (Obj.mapFields (·.setIfInBounds 3 Value.none))).I z=_:=u6 _ O (Jy (wB J _));let W:∀b o,s.U b=Α o->(∀ws,o.data≠ .fields ws)->b≠z:=λb o j g2 q=>by
  symm
 let Z:=ff.of_keeps (h':=s.H.update z (Obj.mapFields (·.setIfInBounds 3 Value.none))) λb o j g2=>⟨o,(U b (W b o j g2)).R j,rfl⟩;let nfz:z∉(env::outer).filterMap (·.frame):=λm=>by
  let(_,o,j,g2):=ff.mem m;symm
 apply Sj (z:=e) fs Z fL ((U e (eE Y)).R ge) de (BR.mp h1).1 λh' T n=>?_;let nn:s.Z<=T:=by
  let:=n.new;symm
 let tz:T≠z:=λq=>absurd (dh O) Å;let Fx:=n.keep z _ nfz Y Y gz';exact k h' T ⟨nn,n.ne,λb o n1 F n3 j=>n.keep b o n1 F F ((U b n3).R j),λb o n1 F n3 j=>n.slot b o n1 F F ((U b n3).R j),n.exc,n.ent⟩ tz
  ⟨_,_,Fx,wB J _,by simp[zz]⟩
end XL
end PySem
namespace PySem
namespace XL
open Builtin.ObjectAttr
section
variable{prog:Pg}{w:Wd}{A:Around}{E:VP}{h:Heap}{g:Array GenState}{d:Drawn}{t:Nat}{os:OsState}
def aci{tk:Tok}{o:Obj}{Q:Fin->Shared->Prop}(z:StoreFacts B bm sa owner)(M:h.I C=Α ù) (hn:h.Ns N mN) (vg:mN name=Β) (hB:typeLookup (.type B) name=pure none)(j:h.I x=Α o) (Z:o.cls=.ref C) (nx:∀c,o.data≠ .cls c) (dx:o.dict=Β)(k:∀h' mU,h'.Ns1 h.O (λy=>if y=name then some v else none)->h'.I x=Α {o with dict:=Α h.O}->(∀b O,b≠x->h.I b=Α O->h'.I b=Α O)->Q (.done (.ret .none)) ⟨h',g,d,mU,os⟩):
  wpAny Í A (Builtin.«object.__setattr__» ⟨[.ref x,.str name tk,v],[]⟩) Q E ⟨h,g,d,t,os⟩:=by
 let ps:=z.passes ŧ;delta Builtin.«object.__setattr__»
 repeat (first|rw[refuse_eq]|(rw[refuseLoop_ref,ps])|(with_reducible apply u4 j ?_;rw[Z])|with_reducible apply wpAny_mroOf_exc M ?_|(with_reducible apply aaS M hn z.mro hB ?_;rw[vg])|wp_step)
 rw[dx,ag (by simp[typeHasDict])];split
 .symm
 split
 .symm
 .let F:(h.push {cls:=.type "dict",data:=.dict #[]}).I x=Α o:=du _ j;let ne:=fU (dh j);apply aF (wpAny_alloc' (aF (wpAny_update' F (cV ?_))));let gd:((h.push {cls:=.type "dict",data:=.dict #[]}).update x λo=>{cls:=o.cls,dict:=Α h.O,data:=o.data,slots:=o.slots}).I h.O=Α {cls:=.type "dict",data:=.dict #[]}:=
   (Heap.get?_update_ne _ _ _ _ ne.symm).R (Heap.get?_push_at rfl rfl)
  let nd:((h.push {cls:=.type "dict",data:=.dict #[]}).update x λo=>{cls:=o.cls,dict:=Α h.O,data:=o.data,slots:=o.slots}).Ns h.O (λ_=>none):=
   ⟨_,#[],_,gd,rfl,λe he=>absurd he Ä,λ_=>rfl⟩
  ext storeInDict newKeyGuard;apply aF (cV (aF (wpAny_nsSet1 (Heap.Ns1.of_empty nd) λh' U W=>?_)));let(oD,eD,pD,g1,g2,g3):=U.count (Within.cons name v Within.nil);apply aF (wpAny_lookBehind g1 (by rw[g2];exact pastItsLine_dict (gn g3 (by rw[dg,tj,yg];omega))) ?_)
  wp_walk
  apply k h' _ U ?_ λb O nb J=>?_
  .apply(W.2 x ne).R (u6 _ F ?_);let fr:=(Heap.get?_some_iff.mp j).2;let(oc,od,Y,pB):=o;cases Y <;> first|rfl|exact fr
  .exact(W.2 b (fU (dh J))).R ((Heap.get?_update_ne _ _ _ _ nb).R (du _ J))
def acj{o:Obj}{Q:Unit->Shared->Prop}(j:StoreFacts B bm sa owner)(J:h.I C=Α ù) (O:h.Ns N mN) (Z:mN "__setattr__"=Β) (Y:mN name=Β) (W:typeLookup (.type B) name=pure none)(F:h.I x=Α o) (z:o.cls=.ref C) (nx:∀c,o.data≠ .cls c) (dx:o.dict=Β)(k:∀h' M,h'.Ns1 h.O (λy=>if y=name then some v else none)->h'.I x=Α {o with dict:=Α h.O}->(∀b U,b≠x->h.I b=Α U->h'.I b=Α U)->Q () ⟨h',g,d,M,os⟩):
  wpAny Í A Ät Q E ⟨h,g,d,t,os⟩:=by
 let f3:=j.slot.bind ŧ;ext setAttr callSpecial? specialOf
 repeat (any_goals (first|assumption|(with_reducible apply u4 F ?_;rw[z])|(with_reducible apply aaS J O j.mro j.slot.Q ?_;rw[Z])|wp_step))
 apply codeAny_call_builtin j.slot.plain j.entry (wpAny_check_sa j J F z (aci j J O Y W F z nx dx λh' M a b c=>?_))
 repeat (any_goals (first|assumption|wp_step))
 exact k h' M a b c
def ack{o:Obj}{dx:Addr}{mA:MG}{ns:LS}{Q:Unit->Shared->Prop}(SF:StoreFacts B bm sa owner)(hC:h.I C=Α ù) (hn:h.Ns N mN) (vh:mN "__setattr__"=Β) (vg:mN name=Β) (hB:typeLookup (.type B) name=pure none)(F:h.I x=Α o) (cx:o.cls=.ref C) (nx:∀c,o.data≠ .cls c) (hd:o.dict=Α dx) (ne:dx≠x) (hm:h.Ns1 dx mA) (hw:Within mA ns) (hz:ns.L<=sizeLine) (xC:x≠C)(k:∀h' M,h'.Ns1 dx (λy=>if y=name then some v else mA y)->(∀b O,b≠dx->h.I b=Α O->h'.I b=Α O)->Q () ⟨h',g,d,M,os⟩):
  wpAny Í A Ät Q E ⟨h,g,d,t,os⟩:=by
 apply store_attr SF hC hn vh vg hB xC ⟨o,F,cx,nx,.inr ⟨dx,hd,ne,hm⟩⟩ (λh' M I' kp sm=>?_) hw hz;let(Z,U,p1,p2,p3,J):=sm o F;let(o2,e1,_,_,e4):=I';let eo:Z=o2:=aQ (U.symm.R e1);subst eo;rcases e4 with ⟨j,_⟩|⟨d2,j,_,e6⟩
 .rw[J dx hd] at j;cases j
 .let ed:dx=d2:=aQ ((J dx hd).symm.trans j);subst ed;apply k h' M e6 λb O nb W=>?_;by_cases Y:b=x
  .subst Y;let:O=o:=aQ (W.symm.R F);subst this;let p4:=(J dx hd).R hd.symm;apply U.R (b9 some ?_);let(a1,a2,a3,a4):=Z;let(b1,b2,b3,b4):=O;dsimp only at p1 p2 p3 p4;subst p1 p2 p3 p4;rfl
  .exact kp b O Y (λo0 d0 q1 q2 z=>nb (by
    let:o0=o:=aQ (q1.symm.R F);subst this;rw[z];exact aQ (q2.symm.R hd))) W
end
end XL
end PySem
namespace PySem
namespace XL
open AutoSeq1 (wpAny_loadPart')
def acm{j t:Addr}{i:Nat}{J:Array Value}{x:Value}{Q:VP}(F:s.H.IsTupleIter j t i)(U:s.H.IsTuple t J)(W:J[i]? =Α x)(k:∀h',h'.IsTupleIter j t (i+1)->Heap.SameBut j s.H h'->Q x {s with heap:=h'}):wpAny Í A (Builtin.SmallTypes.nextOf (.ref j)) Q E s:=by
 let(o,z,M,q):=id F;let(p,g2,_,n,O):=U;ext Builtin.SmallTypes.nextOf;apply aF (wpAny_callSpecial?_slot (name:=Str.ofString "__next__") F.typeIs Rw (wpAny_call_entry Rw F.typeIs atl ?_ (atm _)));show wpAny _ _ (field (.ref j) 0 >>= _) _ _ s;apply aF (wC z q (x:=.ref t) Á ?_);rw[ag (show ¬(Value.ref t==Value.none)=true from eN)];apply aF (wC z q (x:=.int i 0) Á ?_);apply aF (BS g2 O ?_);simp only[BU,W];apply aF (Fd z q Ä (cV ⟨x,Á,cV (k _ ⟨_,u6 _ z (Jy (wB q _)),(aaU ..).R M,?_⟩ (Heap.SameBut.update ..))⟩));rw[wB q];rfl
def acn{j t:Addr}{i:Nat}{J:Array Value}{Q:VP}(M:A.handled=Β)(F:s.H.IsTupleIter j t i)(U:s.H.IsTuple t J)(W:J[i]? =Β)(k:∀h' e,Heap.ExtBut j s.H h'->(∃o,h'.I e=Α o/\o.cls=.type "StopIteration")->E Ém {s with heap:=h'}):wpAny Í A (Builtin.SmallTypes.nextOf (.ref j)) Q E s:=by
 let(o,z,Y,q):=id F;let(p,g2,_,n,O):=U;ext Builtin.SmallTypes.nextOf;apply aF (wpAny_callSpecial?_slot (name:=Str.ofString "__next__") F.typeIs Rw (wpAny_call_entry Rw F.typeIs atl ?_ (atm _)));show wpAny _ _ (field (.ref j) 0 >>= _) _ _ s;apply aF (wC z q (x:=.ref t) Á ?_);rw[ag (show ¬(Value.ref t==Value.none)=true from eN)];apply aF (wC z q (x:=.int i 0) Á ?_);apply aF (BS g2 O ?_);simp only[BU,W];apply aF (Rx (aF (Fd z q Ä ?_)));show wpAny _ _ (newExc (.type "StopIteration") [] >>= _) _ _ _;simp only[newExc,newTuple];apply aF (aF (Jx ?_ (by size_fits)));apply aF (m:=firstArgMember _ _) (wpAny_of_eq (a:=Value.none) Ð (Jx ?_ (by size_fits)));simp only[raiseNew];apply aF (wpAny_handled ?_)
 first|rw[show A.in1.handled=Β from M]|rw[M]
 exact aF (cV (wpAny_throw (k _ _ (((Heap.SameBut.update ..).extBut.push _).push _) ⟨_,ia _ Á,Á⟩)))
def Sl{prog:Pg}{w:Wd}{A:Around}(U:A.handled=Β)(j t:Addr)(z:t≠j)(q:Array Value):
  Draws prog w A j [j,t] q.u (λi v=>q[i]? =Α v) (λi h=>h.IsTupleIter j t i/\h.IsTuple t q) where
 live:=λ_ _ st=>let ⟨o,ho,_⟩:=st.1;⟨o,ho⟩
 frame:=λ_ _ _ st hk=>⟨st.1.at λo e=>hk j Ä o e,let ⟨o,ho,r⟩:=st.2;⟨o,hk t Ä o ho,r⟩⟩
 item:=λi s Q E hi st O=>acm st.1 st.2 (x:=q[i]) (by simp[hi]) λh' J M=>O _ h' s.toks (by simp[hi]) ⟨J,let ⟨o,ho,r⟩:=st.2;⟨o,(M.2 t z).R ho,r⟩⟩ M
 done:=λs Q E st F=>acn U st.1 st.2 Ä F
def aco(t:Addr)(z:Array Value)(n:Nat)(F:OA)(sl:AO):
  Meets (Builtin.«enumerate.__new__» ⟨[.type "enumerate",.ref t],[]⟩) (λ_ R s=>s.U t=Α {cls:=.type "tuple",dict:=F,data:=.seq z n,slots:=sl}/\
   R (.ok (.ret (.ref (s.o {cls:=.type "tuple_iterator",data:=.fields #[.ref t,.int 0 0]}).O)))
    {s with heap:=(s.o {cls:=.type "tuple_iterator",data:=.fields #[.ref t,.int 0 0]}).push {cls:=.type "enumerate",data:=.fields #[.none,.bool false,.ref s.Z,rawInt 0,.none,.none]}}):=
 .of_wp λprog w A R s h=>by
  let(J,g,d,tk,os):=s;let(j,h):=h;let M:=sub_enumerate;let q:Heap.IsTuple (Shared.heap ⟨J,g,d,tk,os⟩) t z:=⟨_,j,rfl,n,rfl⟩
  wp_walk using jE j
  apply wpAny_stack_any λst=>cV ?_;split
  .rename_i c _ _ _ _ _;cases (c==Value.type "enumerate")
   .wp_walk using jE j,aaV q
    exact(_,Á,h)
   .wp_walk using jE j,aaV q
    exact(_,Á,h)
  .wp_walk using jE j,aaV q
   exact(_,Á,h)
def acp{t:Addr}{j:Array Value}{Q:VP}(O:s.H.IsTuple t j)(k:∀h',IsEnum h' Û s.Z 0 .none->h'.IsTupleIter s.Z t 0->h'.O=s.Z+2->(∀b o,s.U b=Α o->h'.I b=Α o)->Q (.ref Û) {s with heap:=h'}):
  wpAny Í A (call (.type "enumerate") [.ref t]) Q E s:=by
 let((c,J,M,sl),U,hc,n,hd):=O;obtain rfl:c=.type "tuple":=hc;obtain rfl:M=.seq j n:=hd;apply callType_new F.called_enumerate Ñ (F.typeCall_enumerate_1 _) (F.newCall_enumerate_1 _) (λobj=>F.args_object_init_2 obj _) F.entry_enumerate_new (aco t j n J sl) ⟨U,?_⟩;let hz:(s.o {cls:=.type "tuple_iterator",data:=.fields #[.ref t,.int 0 0]}).O=s.Z+1:=qw ..;show _/\_;rw[hz];let z:IsEnum ((s.o {cls:=.type "tuple_iterator",data:=.fields #[.ref t,.int 0 0]}).push {cls:=.type "enumerate",data:=.fields #[.none,.bool false,.ref s.Z,rawInt 0,.none,.none]}) Û s.Z 0 .none:=by
  let q:=ia (s.o {cls:=.type "tuple_iterator",data:=.fields #[.ref t,.int 0 0]}) (o:={cls:=.type "enumerate",data:=.fields #[.none,.bool false,.ref s.Z,rawInt 0,.none,.none]}) rfl;rw[hz] at q;exact q
 exact(⟨_,z,Á⟩,k _ z ⟨_,du _ (ia _ Á),Á,Á⟩ (by rw[qw,hz]) λb o y=>du _ (du _ y))
end XL
end PySem
namespace L2
open PySem PySem.Spec PyProof.Rows
abbrev Key:=Sum Int Str
abbrev eM:=List Key
def rM:Key->Value->Bool
 |.inl k,v=>Value.isInt k v
 |.inr x,v=>Value.isStrOf x v
def acq(w:Wd):Key->Int
 |.inl k=>hashInt k
 |.inr x=>hashStr w x
theorem tF:∀{k:Key}{v:Value},rM k v=true->(∃i t,k=Sum.inl i/\v=Value.int i t)\/(∃x t,k=Sum.inr x/\v=Value.str x t)
 |.inl i,v,h=>by
  let(t,e):=Value.isInt_shape (k:=i) (v:=v) h;exact .inl ⟨i,t,Á,e⟩
 |.inr x,v,h=>by
  let(t,e):=Value.isStrOf_shape (x:=x) (v:=v) h;exact .inr ⟨x,t,Á,e⟩
def acr(i:Int)(t:Tok):rM (.inl i) Âl=true:=by simp[rM,Value.isInt]
def acs(x:Str)(t:Tok):rM (.inr x) (.str x t)=true:=by simp[rM,Value.isStrOf]
def acu(a b:Int):decide ((Sum.inl a:Key)=Sum.inl b)=(a==b):=by
 grind
def acv(a b:Str):decide ((Sum.inr a:Key)=Sum.inr b)=decide (a=b):=by
 simp
def acw(a:Int)(b:Str):decide ((Sum.inl a:Key)=Sum.inr b)=false:=gC (λq=>nomatch q)
def acx(a:Str)(b:Int):decide ((Sum.inr a:Key)=Sum.inl b)=false:=gC (λq=>nomatch q)
def fw(prog:Pg)(w:Wd):PySem.KeyKind prog w Key where
 is:=rM
 hash:=acq w
 inj:=λv a b F z=>by
  rcases tF F with ⟨i,t,rfl,rfl⟩|⟨x,t,rfl,rfl⟩
  .rcases tF z with ⟨j,u,rfl,e⟩|⟨y,u,rfl,e⟩
   .injection e with e1 _;rw[e1]
   .exact nomatch e
  .rcases tF z with ⟨j,u,rfl,e⟩|⟨y,u,rfl,e⟩
   .exact nomatch e
   .injection e with e1 _;rw[e1]
 byValue:=λk v h=>by
  rcases tF h with ⟨i,t,rfl,rfl⟩|⟨x,t,rfl,rfl⟩ <;> rfl
 pyHash:=λq h=>by
  rcases tF q with ⟨i,t,rfl,rfl⟩|⟨x,t,rfl,rfl⟩
  .exact wpAny_pyHash_int h
  .exact wpAny_pyHash_str h
 eqBool:=λJ q h=>by
  rcases tF J with ⟨i,t,rfl,rfl⟩|⟨x,t,rfl,rfl⟩
  .rcases tF q with ⟨j,u,rfl,rfl⟩|⟨y,u,rfl,rfl⟩
   .rw[acu] at h;exact wpAny_eqBool_int h
   .rw[acw] at h;exact SeqAt.EqAt.int_str i t y u _ _ _ _ h
  .rcases tF q with ⟨j,u,rfl,rfl⟩|⟨y,u,rfl,rfl⟩
   .rw[acx] at h;exact SeqAt.EqAt.str_int x t j u _ _ _ _ h
   .rw[acv] at h;exact wpAny_eqBool_str h
 «strs»:=λk x t v h=>by
  rcases tF h with ⟨i,u,rfl,e⟩|⟨y,u,rfl,e⟩
  .exact nomatch e
  .injection e with e1 _;subst e1;cases v <;> rfl
def acy(prog:Pg)(w:Wd)(i:Int)(t:Tok):(fw prog w).is (.inl i) Âl=true:=acr i t
def acz(prog:Pg)(w:Wd)(x:Str)(t:Tok):(fw prog w).is (.inr x) (.str x t)=true:=acs x t
inductive V where
 |aO|bl (b:Bool)|int (i:Int)|str (x:Str)|jJ (b:Array UInt8)|Cb (b:UInt64)|ref (a:Addr)|ty (n:String)
 deriving DecidableEq
abbrev ay:=List V
def RelV:V->Value->Prop
 |.aO,u=>u=Value.none
 |.bl b,u=>u=Value.bool b
 |.int i,u=>∃t,u=Value.int i t
 |.str x,u=>∃t,u=Value.str x t
 |.jJ b,u=>∃t,u=Value.bytes b t
 |.Cb b,u=>∃t,u=Value.float b t
 |.ref a,u=>u=Value.ref a
 |.ty n,u=>u=Value.type n
abbrev bp:ay->LV->Prop:=Paired RelV
def bp.length{xs:ay}{U:LV}(r:bp xs U):xs.L=U.L:=Paired.length r
theorem bp.get:∀{xs:ay}{U:LV}{i:Nat}{x:V},bp xs U->xs[i]? =Α x->∃u,U[i]? =Α u/\RelV x u:=by
 intro xs U i x h;induction h generalizing i with
 |nil=>intro e;simp at e
 |cons r t j=>
  intro e;cases i with
  |zero=>simp at e;subst e;exact(_,Á,r)
  |succ i=>exact j e
theorem bp.append:∀{xs ys:ay}{U W:LV},bp xs U->bp ys W->bp (xs++ys) (U++W):=by
 intro xs ys U W j;induction j with
 |nil=>exact @λs=>s
 |cons r t q=>
  intro s;exact .cons r (q s)
theorem bp.take:∀{xs:ay}{U:LV}(n:Nat),bp xs U->bp (xs.take n) (U.take n):=by
 intro xs U n h;induction h generalizing n with
 |nil=>cases n <;> exact .nil
 |cons r t j=>
  cases n with
  |zero=>exact .nil
  |succ n=>exact .cons r (j n)
theorem bp.drop:∀{xs:ay}{U:LV}(n:Nat),bp xs U->bp (xs.drop n) (U.drop n):=by
 intro xs U n h;induction h generalizing n with
 |nil=>cases n <;> exact .nil
 |cons r t j=>
  cases n with
  |zero=>exact .cons r t
  |succ n=>exact j n
def k8:Option V->Option Value->Prop
 |some v,some u=>RelV v u
 |none,none=>True
 |_,_=>False
def KV{κ:Type}:List (κ×V)->List (κ×Value)->Prop:=Paired λ(p:κ×V)(q:κ×Value)=>p.1=q.1/\RelV p.2 q.2
def kV:Key->V
 |.inl i=>.int i
 |.inr x=>.str x
inductive HO where
 |lst (xs:ay)
 |tup (xs:ay)
 |dK (kvs:List (Key×V))|dT (kvs:List (eM×V))
 |set (S:Int->Bool) (n:Nat)
 |ins (C dx:Addr) (fs:List (Str×V))
 |own (x:Addr)
 |xd (fs:List (Str×V))
 |met (f x:Addr)
 |tG (lo hi:Int)
 |cO (o:Obj) (u:HO)
 |j5 (ps:Array Value)
 |ext (φ:Heap->Prop)
abbrev Hp:=Addr->Option HO
def upd(H:Hp)(a:Addr)(o:HO):Hp:=λb=>if b=a then some o else H b
def aq{H:Hp}{a:Addr}{o:HO}:ŭ o a=Α o:=by ext upd;rw[ah rfl]
def az{H:Hp}{a b:Addr}{o:HO}(h:b≠a):ŭ o b=H b:=by ext upd;rw[ag h]
def Sm{H:Hp}{a b:Addr}{o u:HO}(h:H a=Α o)(h':H b=Α u)(d:o≠u):a≠b:=by
 lia
def eQ{H:Hp}{a b:Addr}{o:HO}(h:H a=Α o)(h':H b=Β):a≠b:=by
 lia
section
variable(P:Pg)(w:Wd)
def gu(H:Hp)(h:Heap)(a:Addr):HO->Prop
 |.lst xs=>xs.L<=sizeLine/\∃(j:LV)(n:Nat),bp xs j/\h.I a=Α {cls:=.type "list",data:=.seq j.toArray n}
 |.tup xs=>xs.L<=sizeLine/\∃j:LV,bp xs j/\IsTup h a j.toArray
 |.dK kvs=>kvs.L<=sizeLine/\(a==sysModules)=false/\∃vs,KV kvs vs/\h.DictOf Ãg a vs
 |.dT kvs=>kvs.L<=sizeLine/\(a==sysModules)=false/\∃xs:List (eM×Addr×Value),
   Paired (λ(p:eM×V)(q:eM×Addr×Value)=>p.1=q.1/\H q.2.1=Α (.tup (p.1.M kV))/\RelV p.2 q.2.2) kvs xs/\
   ∃o es ep,h.I a=Α o/\o.ExactDict/\o.data=.dict es ep/\es.toList=xs.M (entryOfKey Èd)/\(xs.M (·.1)).Nodup
 |.set S n=>h.SetOf (intKind P w) a S n
 |.ins C dx fs=>H dx=Α (.own a)/\fs.L<=1000/\dx≠a/\h.I a=Α Ãk/\
   ∃mA,h.Ns1 dx mA/\(∀f,k8 Át (mA f))/\PySem.Within mA (fs.M (·.1))
 |.own _=>∃o,h.I a=Α o
 |.xd fs=>∃mA,h.Ns1 a mA/\∀f,k8 Át (mA f)
 |.tG lo hi=>∃t u v,h.I a=Α {cls:=.type "range",data:=.fields #[.int lo t,.int hi u,.int 1 v]}
 |.cO o u=>h.I a=Α o/\gu H h a u
 |.j5 ps=>h.I a=Α {cls:=.none,data:=.fields ps}
 |.met f x=>h.I a=Α (PySem.W.methodObj ď ŧ)
 |.ext φ=>φ h/\(∃o,h.I a=Α o)/\∀z h2:Heap,φ z->(∀o,z.I a=Α o->h2.I a=Α o)->φ h2
def fb(H:Hp)(h:Heap):Prop:=∀a o,H a=Α o->Áj o
end
theorem gu.lt(x:Áj o):a<h.O:=by
 cases o with
 |lst xs=>let(_,_,_,_,e):=x;exact dh e
 |tup xs=>let(_,_,_,p):=x;exact p.lt
 |dK kvs=>let(_,_,_,_,o,_,_,e,_):=x;exact dh e
 |dT kvs=>let(_,_,_,_,o,_,_,e,_):=x;exact dh e
 |set S n=>let(o,_,_,_,e,_):=x;exact dh e
 |ins C dx fs=>let(_,_,_,e,_):=x;exact dh e
 |own y=>let(_,e):=x;exact dh e
 |xd fs=>let(_,(_,_,_,e,_),_):=x;exact dh e
 |tG lo hi=>let(_,_,_,e):=x;exact dh e
 |cO O u=>let(e,_):=x;exact dh e
 |j5 ps=>exact dh (show h.I a=Α _ from x)
 |met f y=>exact dh (show h.I a=Α _ from x)
 |ext φ=>let(_,(_,e),_):=x;exact dh e
theorem Paired.oq{α β:Type}{F G:α->β->Prop}:∀{l₁:List α}{l₂:List β},Paired F l₁ l₂->(∀a b,F a b->G a b)->Paired G l₁ l₂:=by
 intro l₁ l₂ j;induction j with
 |nil=>exact @λ_=>.nil
 |cons r t q=>
  intro f;exact .cons (f _ _ r) (q f)
theorem gu.rN(x:Áj o)(k:∀b u,(b=a\/H b=Α (.own a))->h.I b=Α u->h'.I b=Α u)(J:∀b,H b=Α (.own a)->H' b=Α (.own a)) (M:∀b xs,H b=Α Ào->H' b=Α Ào):gu P w H' h' a o:=by
 induction o with
 |lst xs=>let(z,j,n,r,e):=x;exact(z,j,n,r,k _ _ ĝ e)
 |tup xs=>let(z,j,r,O,e,c):=x;exact(z,j,r,O,k _ _ ĝ e,c)
 |dK kvs=>let(z,y,vs,r,O,es,ep,e,c):=x;exact(z,y,vs,r,O,es,ep,k _ _ ĝ e,c)
 |dT kvs=>
  let(z,y,xs,r,O,es,ep,e,c):=x;exact(z,y,xs,Paired.oq r λp q z=>⟨z.1,M _ _ z.2.1,z.2.2⟩,O,es,ep,k _ _ ĝ e,c)
 |set S n=>let(O,es,ep,t,e,c):=x;exact(O,es,ep,t,k _ _ ĝ e,c)
 |ins C dx fs=>
  let(d,z,ne,e,mA,(od,es,ep,F,c),r):=x;exact(J _ d,z,ne,k _ _ ĝ e,mA,⟨od,es,ep,k _ _ (.inr d) F,c⟩,r)
 |own y=>let(O,e):=x;exact(O,k _ _ ĝ e)
 |xd fs=>let(mA,(od,es,ep,e,c),r):=x;exact(mA,⟨od,es,ep,k _ _ ĝ e,c⟩,r)
 |tG lo hi=>let(t,u,v,e):=x;exact(t,u,v,k _ _ ĝ e)
 |cO O u U=>let(e,q):=x;exact(k _ _ ĝ e,U q)
 |j5 ps=>
  let e:h.I a=Α {cls:=.none,data:=.fields ps}:=x;show h'.I a=Α {cls:=.none,data:=.fields ps};symm
 |met f y=>
  let e:h.I a=Α (PySem.W.methodObj ď (.ref y)):=x;show h'.I a=Α (PySem.W.methodObj ď (.ref y));symm
 |ext φ=>let(p,(o,e),st):=x;exact(st _ _ p λo q=>k _ _ ĝ q,⟨o,k _ _ ĝ e⟩,st)
def fb.lt(x:ķ h)(e:H a=Α o):a<h.O:=(x a o e).lt
theorem fb.fresh(x:ķ h)(e:h.O<=a):H a=Β:=by
 cases q:H a with
 |none=>rfl
 |some u=>exact absurd (j3 (x.lt q) e) (nq _)
def fb.kept(x:ķ h)(k:∀b u,h.I b=Α u->h'.I b=Α u):ķ h':=λa o e=>
 (x a o e).rN (λb u _ q=>k b u q) (λ_ q=>q) λ_ _ q=>q
def fb.laid(x:ķ h)(k:∀b u,h.I b=Α u->h'.I b=Α u)(z:h.O<=a)(new:gu P w (ŭ o) h' a o):fb P w (ŭ o) h':=λb u e=>by
 let hn:=x.fresh z;by_cases j:b=a
 .subst j;rw[aq] at e;cases e;exact new
 .rw[az j] at e;exact(x b u e).rN (λc v _ q=>k c v q) (λc q=>by rw[az Åb];exact q) λc xs q=>by rw[az Åb];exact q
def Rd(H:Hp)(a:Addr)(u:HO):Prop:=H a=Α u\/∃o,H a=Α Éq
def Rd.ok(r:Rd H a u)(x:ķ h):Áj u:=by
 rcases r with r|⟨o,r⟩
 .exact x a u r
 .let(_,q):=x a _ r;exact q
def vi:Option HO->Prop
 |some (.lst _)=>True
 |some (.dK _)=>True
 |some (.dT _)=>True
 |some (.set _ _)=>True
 |some (.ins _ _ _)=>True
 |some (.ext _)=>True
 |_=>False
def fb.write(ok:ķ h)(M:vi (H x))(Y:e=x\/H e=Α Åu)(k:∀b u,b≠e->h.I b=Α u->h'.I b=Α u)(U:∃u,h'.I e=Α u)(new:gu P w (upd H x o') h' x o'):fb P w (upd H x o') h':=λb u q=>by
 let j:∀c y,H c=Α (.own y)->c≠x:=λc y r z=>by subst z;rw[r] at M;exact M
 let F:∀c xs,H c=Α Ào->c≠x:=λc xs r z=>by subst z;rw[r] at M;exact M
 by_cases J:b=x
 .subst J;rw[aq] at q;cases q;exact new
 .rw[az J] at q;by_cases W:b=e
  .let O:H b=Α Åu:=by
    symm
   rw[q] at O;cases O;let(v,Z):=U;exact(v,by simp_all)
  .apply(ok b u q).rN (λc v hc r=>k c v ?_ r) (λc r=>by rw[az (j c b r)];exact r) λc xs r=>by rw[az (F c xs r)];exact r
   grind
structure Un(fs ex:LA)(H H':Hp)(h h':Heap):Prop where
 keep:∀b o,h.I b=Α o->H b=Β->b∉fs->b∉ex->h'.I b=Α o
 slot:∀b o,h.I b=Α o->H b=Β->b∈fs->b∉ex->∃sl,h'.I b=Α {o with slots:=sl}
 free:∀b o,h.I b=Α o->H b=Β->b∉ex->H' b=Β
 there:∀b o,h.I b=Α o->b∉ex->∃o',h'.I b=Α o'
 vj:∀b xs,H b=Α Ào->H' b=Α Ào
 rO:∀b o u,H b=Α Éq->H' b=Α Éq
 vk:∀b ps,H b=Α (.j5 ps)->∃my,H' b=Α (.j5 (ps++my))
def Un.any(u:Un fs ex H H1 h h1){b:Addr}{O:Obj}(q:h.I b=Α O)(n:H b=Β)(z:b∉ex):∃sl,h1.I b=Α {O with slots:=sl}:=by
 by_cases j:b∈fs
 .exact u.slot b O q n j z
 .exact(O.slots,u.keep b O q n j z)
def Un.kept(k:∀b u,h.I b=Α u->h'.I b=Α u):Un fs ex H H h h':=
 ⟨λb O q _ _ _=>k b O q,λb O q _ _ _=>⟨O.slots,k b O q⟩,λ_ _ _ n _=>n,λb O q _=>⟨O,k b O q⟩,λ_ _ q=>q,λ_ _ _ q=>q,λ_ ps q=>⟨#[],by rw[q];simp⟩⟩
def Un.refl:Un fs ex H H h h:=Un.kept λ_ _ q=>q
def Un.laid(k:∀b u,h.I b=Α u->h'.I b=Α u)(j:h.O<=a)(hn:H a=Β):Un fs ex H (ŭ o) h h' where
 keep:=λb u q _ _ _=>k b u q
 slot:=λb u q _ _ _=>⟨u.slots,k b u q⟩
 free:=λb u q n _=>by rw[az (fU (j3 (dh q) j))];exact n
 there:=λb u q _=>⟨u,k b u q⟩
 vj:=λb xs q=>by rw[az Åb];exact q
 rO:=λb u xs q=>by rw[az Åb];exact q
 vk:=λb ps q=>⟨#[],by rw[az Åb,q];simp⟩
def Un.write(M:vi (H x))(U:e=x\/H e=Α Åu)(k:∀b u,b≠e->h.I b=Α u->h'.I b=Α u)(O:∃u,h'.I e=Α u):Un fs ex H (upd H x o) h h':=by
 let J:∀b,H b=Β->b≠x:=λb n z=>by subst z;rw[n] at M;exact M
 let F:∀b,H b=Β->b≠e:=λb n z=>by
  symm
 let j:∀b u,H b=Α u->¬vi Éf->b≠x:=λb u q nm z=>by subst z;rw[q] at M;exact nm M
 apply⟨λb u q n _ _=>k b u (F b n) q,λb u q n _ _=>⟨u.slots,k b u (F b n) q⟩,λb u q n _=>by rw[az (J b n)];exact n,λb u q _=>?_,
  λb xs q=>by rw[az (j b _ q λz=>z)];exact q,λb u xs q=>by rw[az (j b _ q λz=>z)];exact q,λb ps q=>⟨#[],by rw[az (j b _ q λz=>z),q];simp⟩⟩
 grind
def Fy(h:Heap)(H:Hp):LA:=(List.range h.O).J λa=>(H a).isSome
def vm(h:Heap)(H:Hp):Heap:=PySem.W.hideAll h (Fy h H)
def acC(h:Heap)(H:Hp):(vm h H).O=h.O:=PySem.W.hideAll_size _ _
def acD(e:h.I b=Α o)(n:H b=Β):(vm h H).I b=Α o:=
 PySem.W.hideAll_get _ e λj=>by
  let q:(H b).isSome=true:=(iz.mp j).2;rw[n] at q;simp at q
def acE(e:(vm h H).I b=Α o):h.I b=Α o/\H b=Β:=by
 let j:h.I b=Α o:=PySem.W.of_hideAll (Fy h H) e;apply(j,?_);cases q:H b with
 |none=>rfl
 |some x=>
  let F:b∈Fy h H:=iz.mpr ⟨u7.mpr (dh j),by simp[q]⟩;let z:(vm h H).I b=Β:=PySem.W.hideAll_none (Fy h H) F;symm
structure Mod(K:FR)(mg:MG)(base:Heap):Prop where
 wJ:K.In base
 glob:base.Ns mainGlobals mg
 blt:∃mb,base.Ns builtinsNs mb/\∀x:Str,x≠"__name__"->mb x=bootBuiltins x
 nolimit:base.NoLimit
structure Cx where
 prog:Program
 w:World
 K:FR
 mg:Str->Option Value
 base:Heap
 A:Around
 N:LS
 jK:Shared
 yo:Hp
 env:Env
 outer:List Env
 stack:List Env
 ex:LA
 fn:Str->Bool
 calm:Bool
 pn:cb
 xe:VP
def pC(l:List Env):LA:=l.filterMap (·.frame)
abbrev Cx.fs(X:Cx):LA:=pC X.outer
def yp(j:Scope)(x:Str):Prop:=j.names.Q x=Α .local\/j.names.Q x=Α .cell\/j.names.Q x=Α .free
def Loc(j:Scope)(x:Str):Prop:=j.names.Q x=Α .local\/j.names.Q x=Α .cell
def Look(env:Env)(h:Heap)(m:MG)(x:Str)(u:Value):Prop:=
 (env.kindOf x=Α .local/\m x=Α u)\/((env.kindOf x=Α .cell\/env.kindOf x=Α .free)/\∃c,env.cells.Q x=Α c/\h.IsCell c Éf)
structure Cx.Ok(X:Cx):Prop where
 mod:Mod X.K X.mg X.base
 kind:X.env.scope.kind=.function
 glob:X.env.globals=mainGlobals
 blt:X.env.builtins=builtinsNs
 above:X.jK.Z<=X.env.locals
 inj:∀x y c,X.env.cells.Q x=Α c->X.env.cells.Q y=Α c->x=y
 has:∀x,(X.env.kindOf x=Α .cell\/X.env.kindOf x=Α .free)->∃c,X.env.cells.Q x=Α c
 Ac:∀x c,X.fn x=true->X.env.cells.Q x=Α c->X.jK.Z<=c
 hd:X.calm=true->X.A.handled=Β
 frames:X.A.frames=Α X.stack
 Ce:X.stack=X.outer\/(X.stack=X.env::X.outer/\X.env.frame=Α X.env.locals)
 Cf:∀b∈X.ex,b≠X.env.locals/\∀x c,X.env.cells.Q x=Α c->c≠b
 bs:∀b o,X.base.I b=Α o->X.jK.U b=Α o/\X.yo b=Β
 rP:X.base.O<=X.jK.Z
 Ad:∀b o,X.base.I b=Α o->b∉X.ex
 Ae:∀b∈X.ex,b∉X.fs
 pE:X.jK.H.FunFrames X.base X.outer
 wK:∀b∈X.fs,X.yo b=Β
structure Inv(X:Cx)(pins:cb)(σ:List (Option V))(H:Hp)(s:Sh):Prop where
 ok:X.Ok
 os:s.os=X.jK.os
 bare:AllBare s.gens
 base:Un X.fs X.ex X.yo H X.jK.H s.H
 loc:∃m,s.H.Ns X.env.locals m/\∀(i:Nat)(x:Str)(v:V),X.N[i]? =Α x->σ[i]? =Α Åo->yp X.env.scope x->∃u,RelV v u/\Look X.env s.H m x u
 cell:∀x c,X.env.cells.Q x=Α c->∃v,s.H.IsCell c v
 free:H X.env.locals=Β
 nu:∀x c,X.env.cells.Q x=Α c->H c=Β
 pin:∀p∈X.pn++pins,s.U p.1=Α p.2/\H p.1=Β/\p.1≠X.env.locals/\p.1∉X.fs/\∀v,p.2.data≠ .cell v
 aD:Àg H s.H
 len:σ.L=X.N.L
section
variable{X:Cx}{pins:cb}{σ:List (Option V)}{H H':Hp}{s:Sh}{h':Heap}
def Cx.Ok.acF(ok:X.Ok)(e:X.base.I b=Α o):b∉X.fs:=λj=>by
 let:=(ok.pE.mem j).1;symm
def Inv.bs(I:Ã H s):∀b o,X.base.I b=Α o->s.U b=Α o/\H b=Β:=λb o e=>
 ⟨I.base.keep b o (I.ok.bs b o e).1 (I.ok.bs b o e).2 (I.ok.acF e) (I.ok.Ad b o e),I.base.free b o (I.ok.bs b o e).1 (I.ok.bs b o e).2 (I.ok.Ad b o e)⟩
def Inv.bk(I:Ã H s):∀b o,X.base.I b=Α o->s.U b=Α o:=λb o e=>(I.bs b o e).1
def Inv.mod(I:Ã H s):Mod X.K X.mg X.base:=I.ok.mod
def Inv.gD(I:Ã H s):X.K.In s.H:=I.ok.mod.wJ.keeps I.bk
def Inv.fr(I:Ã H s):∃m,Fr X.base X.env.locals s.H m:=
 let ⟨m,hn,_⟩:=I.loc
 ⟨m,hn,I.bk,gn I.ok.rP I.ok.above⟩
def Inv.lt(I:Ã H s):X.env.locals<s.Z:=let ⟨_,hn,_⟩:=I.loc;hn.lt
def Inv.sz(I:Ã H s):X.jK.Z<=s.Z:=gn I.ok.above (tm I.lt)
def Inv.acG(I:Ã H s)(h:s.Z<=a):a∉X.fs:=λj=>by
 let(_,o,q,_):=I.ok.pE.mem j;exact absurd (j3 (dh q) (gn I.sz h)) (nq _)
def Inv.yq(I:Ã H s):∀x c,X.env.cells.Q x=Α c->c≠X.env.locals:=λx c e z=>by
 let(v,o,j,hd):=I.cell x c e;let(m,(O,es,ep,q,J,_),_):=I.loc;symm
def Inv.pE(I:Ã H s):s.H.FunFrames X.base X.outer:=by
 let all:∀(l:List Env),(∀b∈pC l,b∈X.fs)->X.jK.H.FunFrames X.base l->s.H.FunFrames X.base l:=by
  intro l;induction l with
  |nil=>intro _ _;trivial
  |cons env r U=>
   intro hs J;let(hk,(L,o,F,M,O,hd),hr):=J;let j:L∈X.fs:=hs L (by ext pC;rw[BV,F];exact eO);let(sl,e):=I.base.slot L o O (I.ok.wK L j) j λz=>I.ok.Ae L z j;exact(hk,⟨L,_,F,M,e,hd⟩,U (λb q=>hs b (by ext pC;rw[BV,F];exact aK _ q)) hr)
 exact all X.outer (λ_ q=>q) I.ok.pE
def Inv.stack(I:Ã H s):s.H.FunFrames X.base X.stack:=by
 rcases I.ok.Ce with e|⟨e,j⟩
 .rw[e];exact I.pE
 .rw[e];let(m,q,_):=I.loc;apply .cons (by rw[I.ok.kind];decide) j q ?_ I.pE;exact Ry (gn I.ok.rP I.ok.above)
def Inv.J4(I:Ã H s):∀b∈pC X.stack,b∈X.env.locals::X.fs:=λb j=>by
 rcases I.ok.Ce with e|⟨e,q⟩
 .symm
 .rw[e] at j;delta pC at j;rw[BV,q] at j;exact j
def Inv.Fz(I:Ã H s):∀b∈pC X.stack,H b=Β:=λb j=>by
 rcases a8.mp (I.J4 b j) with e|j
 .rw[e];exact I.free
 .let(_,o,q,_):=I.ok.pE.mem j;exact I.base.free b o q (I.ok.wK b j) λz=>I.ok.Ae b z j
def Inv.step{g':Array GenState}{t':Nat}{d':Drawn}{ch:LA}(I:Ã H s)(M:∀b∈ch,(b∈X.ex\/X.jK.Z<=b)/\b≠X.env.locals/\(∀x c,X.env.cells.Q x=Α c->c≠b)/\∀p∈X.pn++pins,p.1≠b)(keep:∀b o,b≠X.env.locals->b∉X.fs->b∉ch->s.U b=Α o->H b=Β->h'.I b=Α o)(slot:∀b o,b≠X.env.locals->b∈X.fs->b∉ch->s.U b=Α o->H b=Β->∃sl,h'.I b=Α {o with slots:=sl}) (free:∀b o,b∉ch->s.U b=Α o->H b=Β->H' b=Β)(there:∀b o,b∉ch->s.U b=Α o->∃O,h'.I b=Α O)(vj:∀b xs,H b=Α Ào->H' b=Α Ào) (rO:∀b o u,H b=Α Éq->H' b=Α Éq) (vk:∀b ps,H b=Α (.j5 ps)->∃my,H' b=Α (.j5 (ps++my)))(ns:∀m,s.H.Ns X.env.locals m->h'.Ns X.env.locals m) (aD:Àg H' h') (hg:AllBare g'):
  Inv X pins σ H' {s with heap:=h',gens:=g',drawn:=d',toks:=t'}:=by
 let Y:∀b o,X.jK.U b=Α o->b≠X.env.locals:=λb o e=>fU Ϻ;let U:∀b o,X.jK.U b=Α o->b∉X.ex->b∉ch:=λb o e hx hb=>by
  rcases(M b hb).1 with z|z
  .symm
  .exact absurd (j3 (dh e) z) (nq _)
 let W:∀x c,X.env.cells.Q x=Α c->∀v,s.H.IsCell c v->h'.IsCell c v:=λx c e v ⟨o,F,hd⟩=>by
  let J:c∉ch:=λz=>(M c z).2.2.1 x c e rfl;by_cases hc:c∈X.fs
  .let(sl,q):=slot c o (I.yq x c e) hc J F Çw;exact(_,q,hd)
  .exact(o,keep c o (I.yq x c e) hc J F Çw,hd)
 apply(I.ok,I.os,hg,⟨λb o e n hb hx=>?_,λb o e n hb hx=>?_,λb o e n hx=>?_,λb o e hx=>?_,λb xs e=>vj b xs (I.base.vj b xs e),λb o xs e=>rO b o xs (I.base.rO b o xs e),λb ps e=>?_⟩,?_,λx c e=>?_,?_,λx c e=>?_,λp hp=>?_,aD,I.len)
 .exact keep b o (Y b o e) hb (U b o e hx) Ái Ϭ
 .let(sl,j):=I.base.slot b o e n hb hx;let(sl',Z):=slot b _ (Y b o e) hb (U b o e hx) j Ϭ;symm
 .let(O,j):=I.base.there b o e hx;exact free b O (U b o e hx) j Ϭ
 .let(O,j):=I.base.there b o e hx;symm
 .let(m1,j):=I.base.vk b ps e;grind
 .let(m,hn,hl):=I.loc;apply(m,ns m hn,λi x v j Z e3=>?_);let(u,r,l):=hl i x v j Z e3;apply(u,r,?_);rcases l with l|⟨k,c,e,z⟩
  .exact .inl l
  .exact .inr ⟨k,c,e,W x c e _ z⟩
 .let(v,z):=I.cell x c e;grind
 .let(m,(o,_,_,F,_),_):=I.loc;exact free _ o (λz=>(M _ z).2.1 Á) F I.free
 .let(v,o,F,hd):=I.cell x c e;exact free c o (λz=>(M c z).2.2.1 x c e Á) F Çw
 .let(e,n,ne,nf,d):=I.pin p hp;let J:p.1∉ch:=λz=>(M p.1 z).2.2.2 p hp rfl;exact(keep p.1 p.2 ne nf J e n,free p.1 p.2 J e n,ne,nf,d)
def Inv.un{t':Nat}(I:Ã H s)(u:Un X.fs [] H H' s.H h')(aD:Àg H' h'):Ã H' {s with heap:=h',toks:=t'}:=by
 let(m,(o,es,ep,q,r),_):=id I.loc;let(sl,F):=u.any q I.free Ä;exact I.step (g':=s.gens) (d':=s.drawn) (ch:=[]) (λ_ z=>nomatch z) (λb o _ j _ e n=>u.keep b o e n j Ä) (λb o _ j _ e n=>u.slot b o e n j Ä) (λb o _ e n=>u.free b o e n Ä) (λb o _ e=>u.there b o e Ä) u.vj u.rO u.vk (λY J=>by
  let(Z,M,W,O,U):=J;rw[q] at O;cases O;exact(_,M,W,F,U)) aD I.bare
def Inv.call{g':Array GenState}{t':Nat}{d':Drawn}{ch:LA}(I:Ã H s)(u:Un (pC X.stack) ch H H' s.H h')(aD:Àg H' h')(M:AllBare g')(F:∀b∈ch,(b∈X.ex\/X.jK.Z<=b)/\b≠X.env.locals/\(∀x c,X.env.cells.Q x=Α c->c≠b)/\∀p∈X.pn++pins,p.1≠b):
  Inv X pins σ H' {s with heap:=h',gens:=g',drawn:=d',toks:=t'}:=by
 let(m,(o,es,ep,q,r),_):=id I.loc;let(sl,j):=u.any q I.free λz=>(F _ z).2.1 rfl;exact I.step (ch:=ch) F (λb o j J hc e n=>u.keep b o e n (λz=>(a8.mp (I.J4 b z)).elim j J) hc) (λb o _ _ hc e n=>u.any e n hc) (λb o hc e n=>u.free b o e n hc) (λb o hc e=>u.there b o e hc) u.vj u.rO u.vk (λm' U=>by
  let(o',W,Z,O,Y):=U;rw[q] at O;cases O;exact(_,W,Z,j,Y)) aD M
def Inv.turned{t':Nat}{j:Addr}(I:Ã H s)(k:∀b o,b≠j->s.U b=Α o->h'.I b=Α o)(U:H j=Β)(F:j≠X.env.locals)(J:j∈X.ex\/X.jK.Z<=j) (h2:∀x c,X.env.cells.Q x=Α c->c≠j) (M:∀p∈X.pn++pins,p.1≠j):Ã H {s with heap:=h',toks:=t'}:=by
 let W:∀b u,H b=Α u->b≠j:=λb u e z=>by rw[z,U] at e;cases e
 refine I.step (g':=s.gens) (d':=s.drawn) (ch:=[j]) ē (λb o _ _ hc e _=>k b o (λz=>hc (by simp[z])) e) (λb o _ _ hc e _=>⟨o.slots,k b o (λz=>hc (by simp[z])) e⟩) (λ_ _ _ _ n=>n)
  (λb o hc e=>⟨o,k b o (λz=>hc (by simp[z])) e⟩) (λ_ _ e=>e) (λ_ _ _ e=>e) (λb ps e=>⟨#[],by rw[e];simp⟩) (λm O=>?_) (λb u e=>?_) I.bare
 .let e:b=j:=by simpa using hb
  subst e;exact(J,F,h2,M)
 .let(o,es,ep,Y,r):=O;exact(o,es,ep,k _ o (eE F) Y,r)
 .refine(I.aD b u e).rN Ân (λ_ q=>q) λ_ _ q=>q;rcases hc with z|z
  .rw[z];exact W b u e
  .exact W c _ z
def Inv.tok(I:Ã H s)(t:Nat):Ã H {s with toks:=t}:=I.un (h':=s.H) (t':=t) Un.refl I.aD
def Inv.kept{t':Nat}(I:Ã H s)(k:∀b u,s.U b=Α u->h'.I b=Α u):Ã H {s with heap:=h',toks:=t'}:=I.un (Un.kept k) (I.aD.kept k)
def Inv.laid{a:Addr}{o:HO}{t':Nat}(I:Ã H s)(k:∀b u,s.U b=Α u->h'.I b=Α u)(j:s.Z<=a)(new:Àf (ŭ o) h' a o):
  Inv X pins σ (ŭ o) {s with heap:=h',toks:=t'}:=I.un (Un.laid k j (I.aD.fresh j)) (I.aD.laid k j new)
def Inv.write{x e:Addr}{o:HO}{t':Nat}(I:Ã H s)(M:vi (H x))(q:e=x\/H e=Α Åu)(k:∀b u,b≠e->s.U b=Α u->h'.I b=Α u)(j:∃u,h'.I e=Α u)(new:Àf (upd H x o) h' x o):Ã (upd H x o) {s with heap:=h',toks:=t'}:=I.un (Un.write M q k j) (I.aD.write M q k j new)
def Inv.weak(I:Ã H s)(F:σ'.L=σ.L)(w:∀(i:Nat)v,σ'[i]? =Α Åo->σ[i]? =Α Åo):Inv X pins σ' H s:=
 ⟨I.ok,I.os,I.bare,I.base,let ⟨m,hn,J6⟩:=I.loc;⟨m,hn,λi x v j q z=>J6 i x v j (w i v q) z⟩,I.cell,I.free,I.nu,I.pin,I.aD,F.R I.len⟩
def Inv.J7(I:Ã H s)(h:∀p∈acH,s.U p.1=Α p.2/\H p.1=Β/\p.1≠X.env.locals/\p.1∉X.fs/\∀v,p.2.data≠ .cell v):Inv X acH σ H s:=
 ⟨I.ok,I.os,I.bare,I.base,I.loc,I.cell,I.free,I.nu,λp j=>(fu.mp j).elim (λz=>I.pin p (wD _ z)) (h p),I.aD,I.len⟩
def J8{N:LS}(F:N.Nodup){i j:Nat}{x:Str}(a:N[i]? =Α x)(b:N[j]? =Α x):i=j:=by
 let(J,q):=bo.mp a;let(h2,z):=bo.mp b;exact(aaW F).mp (q.R z.symm)
def So{E:VP}{Q:Unit->Shared->Prop}(I:Ã H s)(hN:X.N.Nodup)(hi:X.N[i]? =Α x)(hx:Loc X.env.scope x)(r:RelV v u)(h:∀s',Inv X pins ń H s'->(∃a,Heap.SameBut a s.H s'.H/\(a=X.env.locals\/X.env.cells.Q x=Α a))->Q () s') (hf:X.fn x=true\/X.env.scope.names.Q x=Α .local:=by first|exact .inl Á|exact .inr Á|assumption):ϐ (storeName X.env x u) Q E s:=by
 let(m,hn,hl):=id I.loc;let B9:(X.env.scope.kind== .class||(X.env.scope.kind== .module&&X.env.locals !=X.env.globals))=false:=by rw[I.ok.kind];rfl
 let W:i<σ.L:=by rw[I.len];exact(bo.mp hi).1
 let yq:=I.yq;let U:∀{a:Addr}{h':Heap},(∃o,s.U a=Α o/\H a=Β)->Heap.SameBut a s.H h'->Àg H h':=λ{a h'}ha hs b ob e=>by
  let(_,_,FA):=ha;apply(I.aD b ob e).rN (λc w' hc q=>(hs.2 c ?_).R q) (λ_ q=>q) λ_ _ q=>q;lia
 rcases hx with hk|hk
 .apply wpAny_storeName_local hk hn (λh' Sq hs=>?_) B9;let(oL,_,_,hoL,_):=id hn;apply h _ ⟨I.ok,I.os,I.bare,⟨λb o e n hb hx=>?_,λb o e n hb hx=>?_,I.base.free,λb o e hx=>?_,I.base.vj,I.base.rO,I.base.vk⟩,⟨_,Sq,λj y v' F J Z=>?_⟩,λy c e=>?_,I.free,I.nu,λp hp=>?_,U ⟨oL,hoL,I.free⟩ hs,by simpa using I.len⟩ ⟨_,hs,.inl Á⟩
  .exact(hs.2 b (fU Ϻ)).R Ái
  .let(sl,F):=I.base.slot b o e n hb hx;exact(sl,(hs.2 b (fU Ϻ)).R F)
  .let(o',F):=I.base.there b o e hx;exact(o',(hs.2 b (fU Ϻ)).R F)
  .by_cases O:j=i
   .subst O;rw[hi] at F;cases F;rw[aaX W] at J;cases J;exact(u,r,.inl ⟨hk,by simp⟩)
   .rw[aaY (eE O)] at J;let(u',r',q):=hl j y v' F J Z;apply(u',r',?_);rcases q with ⟨k,e⟩|⟨k,c,e,z⟩
    .apply .inl ⟨k,?_⟩;let:y≠x:=λe=>O (J8 hN F (e▸ hi));symm
    .exact .inr ⟨k,c,e,z.sameBut hs (yq y c e)⟩
  .let(w',z):=I.cell y c e;exact(w',z.sameBut hs (yq y c e))
  .let(e,n,ne,nf,d):=I.pin p hp;exact((hs.2 p.1 ne).R e,n,ne,nf,d)
 .let J9:X.fn x=true:=by
   symm
  let(c,hc):=I.ok.has x (.inl hk);let(w',z):=I.cell x c hc;apply wpAny_storeName_cell I.ok.kind hk hc z (λh' Cj hs=>?_);let(oc,hoc,auo):=id z;apply h {s with heap:=h'} ⟨I.ok,I.os,I.bare,⟨λb o e n hb hx=>?_,λb o e n hb hx=>?_,I.base.free,λb o e hx=>?_,I.base.vj,I.base.rO,I.base.vk⟩,⟨m,hn.sameBut hs (eE (yq x c hc)),λj y v' F J Z=>?_⟩,λy Y e=>?_,I.free,I.nu,λp hp=>?_,U ⟨oc,hoc,I.nu x c hc⟩ hs,À I.len⟩ ⟨c,hs,.inr hc⟩
  .exact(hs.2 b ϝ).R Ái
  .let(sl,F):=I.base.slot b o e n hb hx;exact(sl,(hs.2 b ϝ).R F)
  .let(o',F):=I.base.there b o e hx;exact(o',(hs.2 b ϝ).R F)
  .by_cases O:j=i
   .subst O;rw[hi] at F;cases F;rw[aaX W] at J;cases J;exact(u,r,.inr ⟨.inl hk,c,hc,Cj⟩)
   .rw[aaY (eE O)] at J;let(u',r',q):=hl j y v' F J Z;apply(u',r',?_);rcases q with q|⟨k,Y,e,z'⟩
    .exact .inl q
    .apply .inr ⟨k,Y,e,z'.sameBut hs ?_⟩;rintro rfl;exact O (J8 hN F (I.ok.inj _ _ _ e hc▸ hi))
  .by_cases jL:Y=c
   .grind
   .let(w2,z2):=I.cell y Y e;exact(w2,z2.sameBut hs jL)
  .let(e,n,ne,nf,d):=I.pin p hp;apply((hs.2 p.1 ?_).R e,n,ne,nf,d);grind
def FB(I:Ã H s)(q:X.N.Nodup)(hi:X.N[i]? =Α x)(F:Loc X.env.scope x)(r:RelV v u)(h:∀s',Inv X pins ń H s'->Q () s') (z:X.fn x=true\/X.env.scope.names.Q x=Α .local:=by first|exact .inl Á|exact .inr Á|assumption):ϐ (storeName X.env x u) Q E s:=
 So I q hi F r (λs' j _=>h s' j) z
def Inv.wM{s':Sh}{ch:LA}(I:Ã H s)(q:s'.os=s.os)(u:Un (pC X.stack) ch H H' s.H s'.H)(aD:Àg H' s'.H)(j:AllBare s'.gens)(z:∀b∈ch,(b∈X.ex\/X.jK.Z<=b)/\b≠X.env.locals/\(∀x c,X.env.cells.Q x=Α c->c≠b)/\∀p∈X.pn++pins,p.1≠b):Ã H' s':=by
 let(h',g',d',t',O):=s';let e:O=s.os:=q;subst e;exact I.call (g':=g') (t':=t') (d':=d') u aD j z
end
abbrev XK:=Value->OA->Hp->Prop
abbrev St:=List (Option V)
abbrev VK:=V->Hp->Prop
abbrev TE:=St->Hp->VK->Prop
abbrev TT:=St->Hp->(Bool->Hp->Prop)->Prop
abbrev TA:=St->Hp->(ay->Hp->Prop)->Prop
structure Ends where
 nx:St->Hp->Prop
 rt:VK
 bk:St->Hp->Prop:=λ_ _=>False
 ct:St->Hp->Prop:=λ_ _=>False
abbrev TS:=Ends->St->Hp->Prop
inductive EP(X:Cx)(pins:cb)(σ:St)(Q:VK)(u:Value)(s':Sh):Prop
 |mk (v:V) (H':Hp) (_:Ã H' s') (_:RelV v u) (_:Q v H')
inductive TP(X:Cx)(pins:cb)(σ:St)(Q:Bool->Hp->Prop)(b:Bool)(s':Sh):Prop
 |mk (H':Hp) (_:Ã H' s') (_:Q b H')
inductive AP(X:Cx)(pins:cb)(σ:St)(Q:ay->Hp->Prop)(us:LV)(s':Sh):Prop
 |mk (vs:ay) (H':Hp) (_:Ã H' s') (_:bp vs us) (_:Q vs H')
inductive WP(X:Cx)(pins:cb)(Q:St->Hp->Prop)(s':Sh):Prop
 |mk (σ':St) (H':Hp) (_:ϳ s') (_:Q σ' H')
def SP(X:Cx)(pins:cb)(D:Ends)(f:Flow)(s':Sh):Prop:=
 match f with
 |.next=>WP X pins D.nx s'
 |.brk=>WP X pins D.bk s'
 |.cont=>WP X pins D.ct s'
 |.ret u=>∃v σ' H',ϳ s'/\RelV v u/\D.rt v H'
def PE(X:Cx)(e:Expr)(t:TE):Prop:=
 ∀(pins:cb)(s:Sh)(σ:St)(H:Hp)(Q:VK),Ã H s->t σ H Q->wpAny È X.A Àm (ô Q) X.xe s
def PT(X:Cx)(e:Expr)(t:TT):Prop:=
 ∀(pins:cb)(s:Sh)(σ:St)(H:Hp)(Q:Bool->Hp->Prop),Ã H s->t σ H Q->wpAny È X.A (isTrue e X.env Àm) Ãj X.xe s
def PW(X:Cx)(e:Expr)(t:TT):Prop:=
 ∀(whole:Sem Value)(pins:cb)(s:Sh)(σ:St)(H:Hp)(Q:Bool->Hp->Prop),Ã H s->t σ H Q->wpAny È X.A (isTrue e X.env whole) Ãj X.xe s
def PW.pt(h:PW X e t):PT X e t:=h _
def PA(X:Cx)(es:List Expr)(t:TA):Prop:=
 ∀(pos:Pos)(pins:cb)(s:Sh)(σ:St)(H:Hp)(Q:ay->Hp->Prop),Ã H s->t σ H Q->wpAny È X.A (spliced (backTo pos û)) (AP X pins σ Q) X.xe s
def PS(X:Cx)(st:Stmt)(t:TS):Prop:=
 ∀(pins:cb)(s:Sh)(σ:St)(H:Hp)(D:Ends),Ã H s->t D σ H->wpAny È X.A (exec st X.env) Æe X.xe s
def l6(X:Cx)(st:List Stmt)(t:TS):Prop:=
 ∀(pins:cb)(s:Sh)(σ:St)(H:Hp)(D:Ends),Ã H s->t D σ H->wpAny È X.A (execs st X.env) Æe X.xe s
def aP{α:Type}{t:Sem α}{Q q:α->Shared->Prop}{M:Model}{A:Around}{E:VP}{s:Sh}(h:ϐ t Q E s)(j:∀a s,Q a s->q a s):ϐ t q E s:=jD h j λ_ _ x=>x
inductive ax(i:Nat)(σ:St)(H:Hp)(Q:VK):Prop
 |mk (v:_) (_:σ[i]? =Α Åo) (_:Q v H)
def tC(v:V):TE:=λ_ H Q=>Q v H
def Sr(j:X.N[i]? =Α x)(M:yp X.env.scope x)(hd:(x==("__debug__":Str))=false:=by decide)(O:(x==("__classdict__":Str))=false:=by decide):PE X Àc (ax i):=by
 show Ú;let(v,e,h):=h;let(m,J,q):=I.loc;let(u,r,l):=q i x v j e M;let fin:ô Q u s:=⟨v,H,I,r,h⟩;rcases l with ⟨hk,z⟩|⟨hk,c,hc,F⟩
 .exact wpAny_Name (wpAny_loadName_local I.ok.kind hk J z fin) hd
 .rcases hk with hk|hk
  .exact wpAny_Name (wpAny_loadName_cell I.ok.kind hk hc F fin) hd
  .exact wpAny_Name (wpAny_loadName_free I.ok.kind hk hc F fin O) hd
def bc{i j pos}:PE X (.Constant Ãm j pos) (tC Ãm):=λ_ _ _ H _ I h=>wpAny_Constant_int ⟨.int i,H,I.tok _,⟨_,rfl⟩,h⟩
def vo{b j pos}:PE X (.Constant (.bool b) j pos) (tC (.bl b)):=λ_ _ _ H _ I h=>Constant_bool ⟨.bl b,H,I,rfl,h⟩
def rQ{j pos}:PE X (.Constant .none j pos) (tC .aO):=λ_ _ _ H _ I h=>Constant_none ⟨.aO,H,I,rfl,h⟩
def FE{x j pos}:PE X (.Constant Çy j pos) (tC Çy):=λ_ _ _ H _ I h=>Calls.Constant_str ⟨.str x,H,I.tok _,⟨_,rfl⟩,h⟩
def Gl(X:Cx)(x:Str):Prop:=X.env.kindOf x=Α .globalImplicit
def yr(I:Ã H s)(j:Gl X x)(q:X.mg x=Α u)(h:Q u s)(hd:(x==("__debug__":Str))=false:=by decide):wpAny È X.A (eval Àc X.env) Q E s:=
 ats I.ok.kind j (Calls.loadGlobal_global (by rw[I.ok.glob];exact I.mod.glob.keeps I.bk) q h) hd
def wN{E:VP}{pins:cb}{s:Sh}{σ:St}{H:Hp}{x:Str}{u:Value}{pos:Pos}{Q:VP}(I:Ã H s)(q:Gl X x)(z:X.mg x=Β)(J:bootBuiltins x=Α u)(h:Q u s)(F:x≠"__name__":=by decide) (hd:(x==("__debug__":Str))=false:=by decide):wpAny È X.A (eval Àc X.env) Q E s:=by
 let(M,j,h2):=I.mod.blt;exact ats I.ok.kind q (Calls.loadGlobal_builtin (by rw[I.ok.glob];exact I.mod.glob.keeps I.bk) z (by rw[I.ok.blt];exact j.keeps I.bk) ((h2 x F).R J) h) hd
def vp(j:Gl X x)(q:X.mg x=Α u)(r:RelV v u)(hd:(x==("__debug__":Str))=false:=by decide):PE X Àc (tC v):=
 λ_ _ _ H _ I h=>yr I j q ⟨v,H,I,r,h⟩ hd
def PC(X:Cx)(op:CmpOp)(a b:Expr)(t:TE):Prop:=
 ∀(pins:cb)(s:Sh)(σ:St)(H:Hp)(Q:VK),Ã H s->t σ H Q->
  wpAny È X.A (eval a X.env) (λv j=>wpAny È X.A (eval b X.env) (λu q=>wpAny È X.A (compareOp op v u) (ô Q) X.xe q) X.xe j) X.xe s
def Ss(b:Expr)(h:op≠ .In)(h2:op≠ .NotIn):behindInMarks op b=false:=by
 let j:(op==CmpOp.In)=false:=by cases op <;> first|rfl|exact absurd Á h
 let q:(op==CmpOp.NotIn)=false:=by cases op <;> first|rfl|exact absurd Á h2
 cases b <;> simp[behindInMarks,j,q]
def acK(ta:TE):TE:=λσ H Q=>ta σ H λx H1=>Q (.bl (decide (x=.aO))) H1
def Su(ta:TE):TE:=λσ H Q=>ta σ H λx H1=>Q (.bl (!decide (x=.aO))) H1
theorem RelV.Sv(r:RelV x v):(v==Value.none)=decide (x=.aO):=by
 cases x with
 |aO=>cases r;rfl
 |bl _=>cases r;rfl
 |int _=>let(t,rfl):=r;rfl
 |str _=>let(t,rfl):=r;rfl
 |jJ _=>let(t,rfl):=r;rfl
 |Cb _=>let(t,rfl):=r;rfl
 |ref _=>cases r;rfl
 |ty _=>cases r;rfl
def rR{j mz}(z:ϲ ta):PC X .Is a (.Constant .none j mz) (acK ta):=by
 show Ú;apply aP (z pins s σ H _ I h) λv M ⟨x,H1,q,J,F⟩=>?_;exact Constant_none (is_none_gen ⟨.bl _,H1,q,by rw[J.Sv];rfl,F⟩)
def Ka{j mz}(z:ϲ ta):PC X .IsNot a (.Constant .none j mz) (Su ta):=by
 show Ú;apply aP (z pins s σ H _ I h) λv M ⟨x,H1,q,J,F⟩=>?_;exact Constant_none (isnot_none_gen ⟨.bl _,H1,q,by rw[J.Sv];rfl,F⟩)
inductive Af(x:V)(q:Bool->Prop):Prop
 |mk (c:Bool) (_:x=.bl c) (_:q c)
def tB(t:TE):TT:=λσ H Q=>t σ H λx H1=>Af x λc=>Q c H1
def Sw(h:PC X op a b t)(j:behindInMarks op b=false:=by first|exact Ss _ Ñ (by decide)|rfl):PE X ϡ t:=λpins s σ H Q I hw=>wpAny_Compare1 Ãf j
def pH(h:PC X op a b t)(j:behindInMarks op b=false:=by first|exact Ss _ Ñ (by decide)|rfl):PT X ϡ (tB t):=by
 intro pins s σ H Q I F;apply wpAny_isTrue_Compare1 (aP (h pins s σ H _ I F) λv O j=>aP j λu U h2=>aP h2 λc W ⟨x,H1,z,M,J⟩=>?_) j;let(d,rfl,q):=J;cases M;exact tp ⟨H1,z,q⟩
def jh(h:ϥ t)(z:∀whole,isTrue e X.env whole=(do let v <-whole;standAt e.pos;holding [v] (truthy v)):=by intro _;rfl):PT X e (tB t):=by
 intro pins s σ H Q I F;apply isTrue_plain (aP (h pins s σ H _ I F) λv O ⟨x,H1,j,M,J⟩=>?_) (z _);let(d,rfl,q):=J;cases M;exact tp ⟨H1,j,q⟩
def FF(t u:TT):TT:=λσ H Q=>t σ H λc H1=>if c=true then u σ H1 Q else Q false H1
def Kb(t u:TT):TT:=λσ H Q=>t σ H λc H1=>if c=true then Q true H1 else u σ H1 Q
def acL(t:TT):TT:=λσ H Q=>t σ H λc H1=>Q (!c) H1
theorem pw_and1(j:PT X a tA):PW X (.BoolOp .And [a] pos) tA:=by
 intro W pins s σ H Q I h;apply isTrue_and (aP (j pins s σ H Q I h) λc q e=>?_);cases c with
 |true=>exact isTrue_and_nil e
 |false=>exact e
theorem pw_or1(j:PT X a tA):PW X (.BoolOp .Or [a] pos) tA:=by
 intro W pins s σ H Q I h;apply isTrue_or (aP (j pins s σ H Q I h) λc q e=>?_);cases c with
 |false=>exact isTrue_or_nil e
 |true=>exact e
theorem pw_and(z:PT X a tA)(F:PW X (.BoolOp .And (b::b7) pos) tB'):PW X (.BoolOp .And (a::b::b7) pos) (FF tA tB'):=by
 intro W pins s σ H Q I h;apply isTrue_and (aP (z pins s σ H _ I h) λc J ⟨H1,j,q⟩=>?_);cases c with
 |true=>exact F W pins J σ H1 Q j q
 |false=>exact(H1,j,q)
theorem pw_or(z:PT X a tA)(F:PW X (.BoolOp .Or (b::b7) pos) tB'):PW X (.BoolOp .Or (a::b::b7) pos) (Kb tA tB'):=by
 intro W pins s σ H Q I h;apply isTrue_or (aP (z pins s σ H _ I h) λc J ⟨H1,j,q⟩=>?_);cases c with
 |true=>exact(H1,j,q)
 |false=>exact F W pins J σ H1 Q j q
def qB(z:PT X a tA):PT X (.UnaryOp .Not a pos) (acL tA):=by
 show Ú;exact isTrue_not (aP (z pins s σ H (λc H1=>Q (!c) H1) I h) λ_ _ ⟨H1,j,q⟩=>⟨H1,j,q⟩)
def Kc(ta tb:TE):TE:=λσ H Q=>ta σ H λx H1=>Af x λc=>if c=true then tb σ H1 Q else Q (.bl false) H1
def FG(ta tb:TE):TE:=λσ H Q=>ta σ H λx H1=>Af x λc=>if c=true then Q (.bl true) H1 else tb σ H1 Q
def acM(ta:TE):TE:=λσ H Q=>ta σ H λx H1=>Af x λc=>Q (.bl (!c)) H1
def rS{op}(h:ϲ t):PE X (.BoolOp op [a] pos) t:=λpins s σ H Q I hw=>BoolOp_one Ãf
def vq(z:ϲ ta)(F:PE X (.BoolOp .And (b::b7) pos) tb):PE X (.BoolOp .And (a::b::b7) pos) (Kc ta tb):=by
 show Ú;apply BoolOp_and (aP (z pins s σ H _ I h) λv M ⟨x,H1,j,J,q⟩=>?_);let(c,rfl,q):=q;cases J;apply tp ?_;cases c with
 |true=>exact F pins M σ H1 Q j q
 |false=>exact(.bl false,H1,j,Á,q)
def Kd(z:ϲ ta)(F:PE X (.BoolOp .Or (b::b7) pos) tb):PE X (.BoolOp .Or (a::b::b7) pos) (FG ta tb):=by
 show Ú;apply BoolOp_or (aP (z pins s σ H _ I h) λv M ⟨x,H1,j,J,q⟩=>?_);let(c,rfl,q):=q;cases J;apply tp ?_;cases c with
 |false=>exact F pins M σ H1 Q j q
 |true=>exact(.bl true,H1,j,Á,q)
def Ck(z:ϲ ta):PE X (.UnaryOp .Not a pos) (acM ta):=by
 show Ú;apply UnaryOp_ (aP (z pins s σ H _ I h) λv J ⟨x,H1,j,F,q⟩=>?_);let(c,rfl,q):=q;cases F;exact not_of (tp ⟨.bl (!c),H1,j,Á,q⟩)
def yt(t:TT)(ta tb:TE):TE:=λσ H Q=>t σ H λc H1=>if c=true then ta σ H1 Q else tb σ H1 Q
theorem tI(hc:PT X c tA)(F:ϲ ta)(J:PE X b tb):PE X (.IfExp c a b pos) (yt tA ta tb):=by
 show Ú;apply wpAny_IfExp (aP (hc pins s σ H _ I h) λd z ⟨H1,j,q⟩=>?_);cases d with
 |true=>exact F pins z σ H1 Q j q
 |false=>exact J pins z σ H1 Q j q
def aa(K:FR)(H:Hp)(a:Addr)(xs:ay):Prop:=
 Rd H a Àp\/
  ∃(o:Obj)(j:Array Value)(n:Nat),K.Q a=Α o/\o.cls=.type "list"/\o.dict=Β/\o.data=.seq j n/\j.u<=sizeLine/\bp xs j.toList
def bw(K:FR)(H:Hp)(a:Addr)(xs:ay):Prop:=
 Rd H a Ào\/
  ∃(o:Obj)(j:Array Value)(n:Nat),K.Q a=Α o/\o.cls=.type "tuple"/\o.data=.seq j n/\j.u<=sizeLine/\bp xs j.toList
def acN:Value->Option V
 |.none=>some .aO
 |.bool b=>some (.bl b)
 |.int i _=>some Ãm
 |.str x _=>some Çy
 |.bytes b _=>some (.jJ b)
 |.float b _=>some (.Cb b)
 |.ref a=>some ħ
 |.type n=>some (.ty n)
 |_=>none
theorem RelV.abs(r:RelV x u):acN u=Α x:=by
 cases x with
 |aO=>cases r;rfl
 |bl _=>cases r;rfl
 |int _=>let(t,rfl):=r;rfl
 |str _=>let(t,rfl):=r;rfl
 |jJ _=>let(t,rfl):=r;rfl
 |Cb _=>let(t,rfl):=r;rfl
 |ref _=>cases r;rfl
 |ty _=>cases r;rfl
def RelV.inj(r:RelV x u)(q:RelV y u):x=y:=aQ (r.abs.symm.R q.abs)
theorem bp.inj:∀{xs ys:ay}{U:LV},bp xs U->bp ys U->xs=ys:=by
 intro xs ys U h;induction h generalizing ys with
 |nil=>intro h';cases h';rfl
 |cons r t j=>
  intro h';cases h' with
  |cons q t'=>rw[r.inj q,j t']
section
variable{X:Cx}{pins:cb}{σ:St}{H:Hp}{s:Sh}{a:Addr}{xs ys:ay}
def aa.of{K:FR}(h:H a=Α Àp):ä a xs:=.inl (.inl h)
def bw.of{K:FR}(h:H a=Α Ào):š a xs:=.inl (.inl h)
def Inv.list(I:Ã H s)(h:Ák a xs):∃j:LV,bp xs j/\PlainL s.H a j.toArray/\xs.L<=sizeLine:=by
 rcases h with h|⟨o,j,n,hk,hc,hd,hs,hz,r⟩
 .let(z,j,n,r,e):=h.ok I.aD;exact(j,r,⟨_,n,e,Á,Á,Á⟩,z)
 .apply(j.toList,r,⟨o,n,I.gD a o hk,hc,hd,by assumption⟩,?_);let e:=r.L;symm
def Inv.tuple(I:Ã H s)(h:bw X.K H a xs):∃j:LV,bp xs j/\IsTup s.H a j.toArray/\xs.L<=sizeLine:=by
 rcases h with h|⟨o,j,n,hk,hc,hs,hz,r⟩
 .let(z,j,r,p):=h.ok I.aD;exact(j,r,p,z)
 .apply(j.toList,r,⟨o,I.gD a o hk,hc,n,À hs⟩,?_);let e:=r.L;simp only[yh] at e;symm
def Inv.Cm(I:Ã H s)(h:Ák a xs)(h':Ák a ys):xs=ys:=by
 let(q,r,(o,n,e,_,_,d),_):=I.list h;let(its',z,(O,F,j,_,_,d'),_):=I.list h';rw[e] at j;cases j;rw[d] at d';injection d' with d1 _;let:q=its':=by simpa using b9 Array.toList d1
 subst this;exact r.inj z
def Inv.Sx(I:Ã H s)(h:bw X.K H a xs)(h':bw X.K H a ys):xs=ys:=by
 let(q,r,(o,e,_,n,d),_):=I.tuple h;let(its',z,(O,j,_,F,d'),_):=I.tuple h';rw[e] at j;cases j;rw[d] at d';injection d' with d1 _;let:q=its':=by simpa using b9 Array.toList d1
 subst this;exact r.inj z
end
abbrev Cx.i5(X:Cx)(E:VP):Cx:={X with xe:=E}
abbrev Cx.yu(X:Cx):Cx:=X.i5 λ_ _=>False
def Cx.Ok.i5{X:Cx}(ok:X.Ok)(E:VP):(X.i5 E).Ok:=
 ⟨ok.mod,ok.kind,ok.glob,ok.blt,ok.above,ok.inj,ok.has,ok.Ac,ok.hd,ok.frames,ok.Ce,ok.Cf,ok.bs,ok.rP,ok.Ad,ok.Ae,ok.pE,ok.wK⟩
def Cx.Ok.nB{X:Cx}{E:VP}(ok:(X.i5 E).Ok):X.Ok:=
 ⟨ok.mod,ok.kind,ok.glob,ok.blt,ok.above,ok.inj,ok.has,ok.Ac,ok.hd,ok.frames,ok.Ce,ok.Cf,ok.bs,ok.rP,ok.Ad,ok.Ae,ok.pE,ok.wK⟩
section
variable{X:Cx}{pins:cb}{σ:St}{H:Hp}{s:Sh}{E:VP}
def Inv.i5(I:Ã H s)(E:VP):Inv (X.i5 E) pins σ H s:=⟨I.ok.i5 E,I.os,I.bare,I.base,I.loc,I.cell,I.free,I.nu,I.pin,I.aD,I.len⟩
def Inv.nB(I:Inv (X.i5 E) pins σ H s):Ã H s:=⟨I.ok.nB,I.os,I.bare,I.base,I.loc,I.cell,I.free,I.nu,I.pin,I.aD,I.len⟩
theorem SP.nB(h:SP (X.i5 E) pins D f s'):SP X pins D f s':=by
 cases f with
 |next=>let(σ',H',I,q):=h;exact(σ',H',I.nB,q)
 |brk=>let(σ',H',I,q):=h;exact(σ',H',I.nB,q)
 |cont=>let(σ',H',I,q):=h;exact(σ',H',I.nB,q)
 |ret u=>let(v,σ',H',I,r,q):=h;exact(v,σ',H',I.nB,r,q)
def l6.yu{st:List Stmt}{t:TS}(h:l6 X.yu st t):l6 X st t:=λpins s σ H D I j=>
 jD (h pins s σ H D (I.i5 _) j) (λ_ _ q=>q.nB) λ_ _ z=>False.elim z
end
section
variable{X:Cx}{st:Stmt}{b7:List Stmt}{t u:TS}{e:Expr}{te:TE}{pos:Pos}
def Sy:TS:=λD σ H=>D.nx σ H
def Ke(t u:TS):TS:=λD σ H=>t {D with nx:=u D} σ H
def dQ:l6 X [] Sy:=λ_ _ σ H _ I h=>Ff ⟨σ,H,I,h⟩
def aB(z:PS X st t)(h2:l6 X b7 u):l6 X (st::b7) (Ke t u):=by
 intro pins s σ H D I h;apply aa1 (aP (z pins s σ H {D with nx:=u D} I h) λf F q=>?_);cases f with
 |next=>
  let(σ',H',j,q):=q;exact h2 pins F σ' H' D j q
 |ret v=>exact q
 |brk=>exact q
 |cont=>exact q
theorem aA(j:PS X st t):l6 X [st] t:=by
 intro pins s σ H D I h;apply aa1 (aP (j pins s σ H D I h) λf z q=>?_);cases f with
 |next=>exact Ff q
 |ret v=>exact q
 |brk=>exact q
 |cont=>exact q
def Inv.quiet(I:Ã H s):interactive X.env=false:=by simp[interactive,I.ok.kind]
def acO(te:TE):TS:=λD σ H=>te σ H λ_ H1=>D.nx σ H1
def pI(q:ϥ te)(hs:swapsWith e none pos.line X.env=pure false:=by rfl):PS X (.Expr e pos) (acO te):=by
 intro pins s σ H D I h;exact wpAny_Expr_any (aP (q pins s σ H _ I h) λv J ⟨x,H1,j,F,z⟩=>⟨σ,H1,j,z⟩) I.quiet hs
def Co(te:TE):TS:=λD σ H=>te σ H D.rt
def aV(q:ϥ te):PS X (.Return (some e) pos) (Co te):=by
 intro pins s σ H D I h;exact wpAny_Return_some (aP (q pins s σ H _ I h) λv J ⟨x,H1,j,F,z⟩=>⟨x,σ,H1,j,F,z⟩)
def acP(c:TT)(t u:TS):TS:=λD σ H=>c σ H λb H1=>if b=true then t D σ H1 else u D σ H1
theorem dj(hc:PT X c tc)(F:l6 X a t)(J:l6 X b u):PS X (.If c a b pos) (acP tc t u):=by
 intro pins s σ H D I h;apply wpAny_If (aP (hc pins s σ H _ I h) λd z ⟨H1,j,q⟩=>?_);cases d with
 |true=>exact F pins z σ H1 D j q
 |false=>exact J pins z σ H1 D j q
end
abbrev TG:=V->St->Hp->(St->Hp->Prop)->Prop
abbrev Cp:=ay->St->Hp->(St->Hp->Prop)->Prop
def PG(X:Cx)(j:Expr)(t:TG):Prop:=
 ∀(pins:cb)(s:Sh)(σ:St)(H:Hp)(v:V)(u:Value)(Q:St->Hp->Prop),Ã H s->RelV v u->t v σ H Q->
  wpAny È X.A (assign j X.env u) (λ_ s'=>WP X pins Q s') X.xe s
def FH(X:Cx)(ts:List Expr)(t:Cp):Prop:=
 ∀(pins:cb)(s:Sh)(σ:St)(H:Hp)(vs:ay)(U:LV)(Q:St->Hp->Prop),Ã H s->bp vs U->t vs σ H Q->
  wpAny È X.A (assignInOrder ((assignEach ts X.env).M (·.2)) U) (λ_ s'=>WP X pins Q s') X.xe s
abbrev Sz:=V->V->Hp->VK->Prop
def PIp(X:Cx)(op:Operator)(t:Sz):Prop:=
 ∀(pins:cb)(s:Sh)(σ:St)(H:Hp)(x y:V)(v u:Value)(Q:VK),Ã H s->RelV x v->RelV y u->t x y H Q->
  wpAny È X.A (inplaceOp op v u) (ô Q) X.xe s
def qC(i:Nat):TG:=λv σ H Q=>Q ń H
def cZ(i:Nat)(q:X.N.Nodup)(hi:X.N[i]? =Α x:=by rfl)(F:Loc X.env.scope x:=by first|exact .inl Á|exact .inr Á)(z:X.fn x=true\/X.env.scope.names.Q x=Α .local:=by first|exact .inl Á|exact .inr Á|assumption):PG X Àc (qC i):=by
 intro pins s σ H v u Q I r h;exact wpAny_assign_Name (FB I q hi F r (λs' j=>⟨_,H,j,h⟩) z)
def SA:Cp:=λvs σ H Q=>vs=[]/\Q σ H
inductive Kf(t:TG)(u:Cp)(vs:ay)(σ:St)(H:Hp)(Q:St->Hp->Prop):Prop
 |mk (v r:_) (_:vs=v::r) (_:t v σ H λσ' H'=>u r σ' H' Q)
def acR:FH X [] SA:=by
 intro pins s σ H vs U Q I r h;let(e,h):=h;subst e;cases r;exact assignInOrder_nil ⟨σ,H,I,h⟩
def SB(z:PG X e t)(h2:FH X es u)(hs:(assignEach (e::es) X.env).M (·.2)=assign e X.env::(assignEach es X.env).M (·.2):=by rfl):FH X (e::es) (Kf t u):=by
 intro pins s σ H vs U Q I r h;let(v,O,q,h):=h;subst q;cases r with
 |cons r J=>
  rw[hs];apply assignInOrder_cons (aP (z pins s σ H _ _ _ I r h) λ_ M ⟨σ1,H1,j,F⟩=>?_);exact h2 pins M σ1 H1 _ _ Q j J F
inductive SC(K:FR)(n:Nat)(t:Cp)(v:V)(σ:St)(H:Hp)(Q:St->Hp->Prop):Prop
 |mk (a xs:_) (_:v=.ref a) (_:š a xs) (_:xs.L=n) (_:t xs σ H Q)
def acS{es:List Expr}{k:Nat}{t:Cp}{n:Nat}(hc:X.calm=true)(h:FH X es t)(J:(assignEach es X.env).L=n:=by rfl) (W:(assignEach es X.env).findIdx? (·.1)=Β:=by rfl):PG X (.Tuple es k pos) (SC X.K n t):=by
 intro pins s σ H v u Q I r j;let(a,xs,z,M,F,j):=j;subst z;cases r;let(Z,Y,O,hz):=I.tuple M;apply assign_Tuple_tuple ă O (by simp[J,<-F,Y.length]) W λh' U=>?_;let q:Ã H {s with heap:=h'}:=I.kept (t':=s.toks) λb o e=>U b o Èq e;exact h pins _ σ H xs _ Q q (by assumption) j
abbrev g2(K:FR)(i j:Nat):TG:=SC K 2 (Kf (qC i) (Kf (qC j) SA))
def iA{k:Nat}{p q:Pos}(i j:Nat)(z:X.N.Nodup)(hc:X.calm=true:=by rfl)(hi:X.N[i]? =Α x:=by rfl)(M:X.N[j]? =Α y:=by rfl)(O:Loc X.env.scope x:=by first|exact .inl Á|exact .inr Á)(U:Loc X.env.scope y:=by first|exact .inl Á|exact .inr Á)(F:X.fn x=true\/X.env.scope.names.Q x=Α .local:=by first|exact .inr Á|exact .inl Á) (J:X.fn y=true\/X.env.scope.names.Q y=Α .local:=by first|exact .inr Á|exact .inl Á):PG X (.Tuple [.Name x p,.Name y q] k pos) (g2 X.K i j):=
 acS hc (SB (cZ i z hi O F) (SB (cZ j z M U J) acR))
def Ag(te:TE)(g:TG):TS:=λD σ H=>te σ H λx H1=>g x σ H1 D.nx
def cf(i:Nat)(z:X.N.Nodup)(F:ϥ te)(hi:X.N[i]? =Α x:=by rfl)(M:Loc X.env.scope x:=by first|exact .inl Á|exact .inr Á)(hs:swapsWith e (some (.Name x mz)) pos.line X.env=pure false:=by rfl)(J:X.fn x=true\/X.env.scope.names.Q x=Α .local:=by first|exact .inl Á|exact .inr Á|assumption):
  PS X (.Assign [.Name x mz] e pos) (Ag te (qC i)):=by
 intro pins s σ H D I h;apply wpAny_Assign_Name (aP (F pins s σ H _ I h) λv W ⟨y,H1,j,U,O⟩=>?_) hs;exact FB j z hi M U (λY q=>⟨_,H1,q,O⟩) J
def acT(i:Nat)(te:TE)(q:Sz):TS:=λD σ H=>∃x,σ[i]? =Α (some x)/\te σ H λy H1=>q x y H1 λz j=>D.nx (σ.set i (some z)) j
def SD(Y:X.N.Nodup)(hi:X.N[i]? =Α x)(j:Loc X.env.scope x)(Z:ϥ te)(ho:PIp X op ti)(hf:X.fn x=true\/X.env.scope.names.Q x=Α .local:=by first|exact .inl Á|exact .inr Á|assumption):
  PS X (.AugAssign (.Name x mz) op e pos) (acT i te ti):=by
 intro pins s σ H D I h;let(v,W,h):=h;let(m,hn,hl):=I.loc;let q:yp X.env.scope x:=by rcases j with k|k;exact .inl k;exact .inr (.inl k)
 let(u,r,l):=hl i x v hi W q;apply wpAny_AugAssign_Name ?_;let go:wpAny È X.A Àm (λw s₂=>wpAny È X.A (inplaceOp op u w) (λr s₃=>wpAny È X.A (storeName X.env x r) (λ_=>SP X pins D .next) X.xe s₃) X.xe s₂) X.xe s:=by
  apply aP (Z pins s σ H _ I h) λw s1 ⟨y,H1,M,r1,q1⟩=>?_;apply aP (ho pins s1 σ H1 v y u w _ M r r1 q1) λz s2 ⟨zv,J,O,r2,q2⟩=>?_;exact FB O Y hi j r2 (λs3 U=>⟨_,J,U,q2⟩) hf
 rcases l with ⟨hk,hm⟩|⟨hk,c,hc,F⟩
 .exact wpAny_loadName_local I.ok.kind hk hn hm go
 .rcases hk with hk|hk
  .exact wpAny_loadName_cell I.ok.kind hk hc F go
  .rcases j with k|k
   .let:X.env.scope.names.Q x=Α .free:=hk;symm
   .let:X.env.scope.names.Q x=Α .free:=hk;symm
def acV(c:TT)(tb:TS):TS:=λD σ H=>∃W:Nat->St->Hp->Prop,(∃m,W m σ H)/\∀m σ H,W m σ H->
 c σ H λb H1=>if b=true then ∃N:St->Hp->Prop,(∀σ' H',N σ' H'->∃M,M<m/\W M σ' H')/\tb {D with nx:=N,ct:=N,bk:=D.nx} σ H1 else D.nx σ H1
def SE{c:Expr}{pj:List Stmt}{tc:TT}{tb:TS}(hp:PassesOwn È X.A X.env X.xe)(hc:PT X c tc)(hb:l6 X pj tb):PS X (.While c pj [] pos) (acV tc tb):=by
 intro pins s σ H D I h;let(W,(m0,w0),turn):=h;apply wpAny_While (codeAny_whileLoop (λn s'=>∃σ' H',ϳ s'/\W n σ' H') ?_ m0 ⟨σ,H,I,w0⟩);rintro n s1 ⟨σ1,H1,I1,w1⟩;apply BW hp (aP (hc pins s1 σ1 H1 _ I1 (turn n σ1 H1 w1)) λb s2 ⟨Y,Z,q⟩=>?_);cases b with
 |true=>
  let(N,hN,q):=q;rw[ah rfl];apply BW hp (aP (hb pins s2 σ1 Y _ Z q) λf s3 z=>?_);cases f with
  |next=>
   let(σ3,j,F,O):=z;let(M,J,U):=hN σ3 j O;exact(M,J,σ3,j,F,U)
  |cont=>
   let(σ3,j,F,O):=z;let(M,J,U):=hN σ3 j O;exact(M,J,σ3,j,F,U)
  |brk=>exact z
  |ret v=>exact z
 |false=>
  rw[ag eN];exact Ff ⟨σ1,Y,Z,q⟩
structure It where
 go:Nat->Hp->Prop
 ou:Nat->Hp->V->Hp->Prop
 stop:Nat->Hp->Prop
def nE(X:Cx)(pins:cb)(H:Hp)(b:Addr):Prop:=
 H b=Β/\b≠X.env.locals/\b∉X.fs/\(b∈X.ex\/X.jK.Z<=b)/\(∀x c,X.env.cells.Q x=Α c->c≠b)/\∀p∈X.pn++pins,p.1≠b
def Inv.wO(I:Ã H s)(j:s.Z<=b)(F:H' b=Β):ň H' b:=by
 apply(F,u5 (j3 I.lt j),I.acG j,.inr (gn I.sz j),λx c e z=>?_,λp J z=>?_)
 .let(v,q):=I.cell x c e;exact absurd (j3 q.lt Å) (nq _)
 .exact absurd (j3 (dh (I.pin p J).1) Å) (nq _)
structure Turn(P:Pg)(w:Wd)(K:FR)(tg:Expr)(J:It)(fp:LA)(it:Addr)(tn:Nat->Heap->Prop):Prop where
 mem:it∈fp
 obj:∀i h,tn i h->∀b∈fp,∃o,h.I b=Α o/\∀v,o.data≠ .cell v
 keep:∀i h h',tn i h->(∀b∈fp,∀o,h.I b=Α o->h'.I b=Α o)->tn i h'
 item:∀(X:Cx),X.prog=P->X.w=w->X.K=K->X.calm=true->∀(i:Nat)(pins:cb)(s:Sh)(σ:St)(H:Hp)(E:VP),Ã H s->(∀b∈fp,ň H b)->tn i s.H->J.go i H->
  wpAny Âe X.A (pyNext Ãq) (λr s1=>∃u,r=Α u/\
   wpAny Âe X.A (letOwnedTupleGo tg Ãq u) (λ_ s2=>∃x H',Ã H' s2/\RelV x u/\J.ou i H x H'/\tn (i+1) s2.H/\∀b∈fp,H' b=Β) E s1) E s
 done:∀(X:Cx),X.prog=P->X.w=w->X.K=K->X.calm=true->∀(i:Nat)(pins:cb)(s:Sh)(σ:St)(H:Hp)(E:VP),Ã H s->(∀b∈fp,ň H b)->tn i s.H->J.stop i H->
  wpAny Âe X.A (pyNext Ãq) (λr s1=>r=Β/\Ã H s1) E s
 self:∀(A:Around)(i:Nat)(s:Sh)(Q:VP)(E:VP),tn i s.H->Q Ãq s->wpAny Âe A (pyIter Ãq) Q E s
abbrev TI:=St->Hp->(It->Hp->Prop)->Prop
def Cq(X:Cx)(pins:cb)(σ:St)(tg:Expr)(R:It->Hp->Prop)(z:Value)(q:Sh):Prop:=
 ∃(j:Addr)(fp:LA)(tn:Nat->Heap->Prop)(J:It)(H':Hp),z=.ref j/\Ã H' q/\Turn X.prog X.w X.K tg J fp j tn/\tn 0 q.H/\(∀b∈fp,ň H' b)/\R J H'
def PI(X:Cx)(tg iter:Expr)(W:TI):Prop:=
 ∀(pins:cb)(s:Sh)(σ:St)(H:Hp)(R:It->Hp->Prop),Ã H s->W σ H R->
  wpAny È X.A (eval iter X.env) (λv j=>wpAny È X.A (pyIter v) Åj X.xe j) X.xe s
def FI(z:s.U it=Α o)(hc:o.cls=.type n)(hd:o.data=.fields vs)(q:["enumerate","zip","dict_itemiterator","dict_reverseitemiterator","odict_iterator","itertools.zip_longest","itertools.pairwise"].Y n=false) (j:Q () s):ϐ (letOwnedTupleGo tg Ãq u) Q E s:=by
 ext letOwnedTupleGo;cases tg <;> first
  |exact cV j
  |(cases u <;> first
    |exact cV j
    |(apply aF (wpAny_load z ?_)
      rw[hc,hd];show wpAny M A (if (["enumerate","zip","dict_itemiterator","dict_reverseitemiterator","odict_iterator","itertools.zip_longest","itertools.pairwise"].Y n&&vs[0]? ==Α (rawInt _))=true then _ else _) Q E s;rw[ag (by intro h;rw[q,mG] at h;cases h)];exact cV j))
def wQ(K:FR)(a:Addr):It:=
 ⟨λi H=>∃xs x,ä a xs/\xs[i]? =Α x,λi H x H'=>H'=H/\∀xs,ä a xs->xs[i]? =Α x,λi H=>∃xs,ä a xs/\xs.L<=i⟩
def yw(lo:Int)(n:Nat):It:=⟨λi _=>i<n,λi H x H'=>H'=H/\x=.int (lo+i),λi _=>n<=i⟩
def acW{P:Pg}{w:Wd}{K:FR}{tg:Expr}(a it:Addr):Turn P w K tg (wQ K a) [it] it (λi h=>h.IsListIter it a i) where
 mem:=by simp
 obj:=λi h st b hb=>by
  let e:b=it:=À hb
  subst e;let(o,e,c,d):=st;exact(o,e,λv z=>by rw[d] at z;cases z)
 keep:=λi h h' st k=>st.at λo e=>k it Ä o e
 item:=by
  show Õ;subst hP hw hK;let(xs,x,j,q):=hg;let(O,F,p,hz):=I.list j;let(u,U,Y):=F.get q;show ì;apply wpAny_pyNext_list_item st p.isList (x:=u) (À U) λh' J Z=>?_;let M:Ã H {s with heap:=h'}:=I.turned (t':=s.toks) (λb o hb e=>(Z.2 b hb).R e) f0 f1 f3 f4 f5;let(o,e,c,d):=id J;exact(u,Á,FI (s:={s with heap:=h'}) e c d Ñ ⟨x,H,M,Y,⟨Á,λys W=>by rw[I.Cm W j];exact q⟩,J,λb hb=>(hf b hb).1⟩)
 done:=by
  show Õ;subst hP hw hK;let(xs,j,q):=hg;let(O,F,p,hz):=I.list j;show ì;let hl:=F.L;exact wpAny_pyNext_list_end ă st p.isList (by simp;symm) λh' eb=>⟨Á,I.turned (t':=s.toks) ϙ f0 f1 f3 f4 f5⟩
 self:=λ_ _ _ _ _ st h=>wpAny_pyIter_listiter st h
def acX{P:Pg}{w:Wd}{K:FR}{tg:Expr}(it:Addr)(lo:Int)(n:Nat):Turn P w K tg (yw lo n) [it] it (λi h=>IsRangeIter h it (lo+(i:Nat)*1) ((n:Int)-(i:Nat)) 1) where
 mem:=by simp
 obj:=λi h st b hb=>by
  let e:b=it:=À hb
  subst e;exact⟨_,st,λv z=>by
   let Z:Data.fields _=Data.cell v:=z;cases Z⟩
 keep:=λi h h' st k=>k it Ä _ st
 item:=by
  show Õ;subst hP hw hK;show ì;let W:=Walks.range (prog:=X.prog) (w:=X.w) ă it lo 1 n;apply W.item i s _ _ hg st λv h' tk F j J=>?_;let(t,rfl):=F;let q:Ã H {s with heap:=h',toks:=tk}:=I.turned (λb o hb e=>J b o (À hb) e) f0 f1 f3 f4 f5;apply⟨_,Á,FI (s:={s with heap:=h',toks:=tk}) (n:="range_iterator") j Á Á Ñ ⟨.int (lo+i),H,q,⟨t,?_⟩,⟨Á,Á⟩,j,λb hb=>(hf b hb).1⟩⟩;rw[Int.mul_one]
 done:=by
  show Õ;subst hP hw hK;show ì;exact wpAny_pyNext_range_end ă st (by let:n<=i:=hg;lia) λh' eb=>⟨Á,I.turned (t':=s.toks) ϙ f0 f1 f3 f4 f5⟩
 self:=λ_ _ _ _ _ st h=>wpAny_pyIter_rangeiter st h
def acY(K:FR)(tl:TE):TI:=λσ H R=>tl σ H λx H1=>∃a,x=.ref a/\(∃xs,aa K H1 a xs)/\R (wQ K a) H1
def dX{l:Expr}{tl:TE}(F:PE X l tl):PI X tg l (acY X.K tl):=by
 intro pins s σ H R I h;apply aP (F pins s σ H _ I h) λv j ⟨x,H1,I1,O,M⟩=>?_;let(a,e,(xs,J),q):=M;subst e;cases O;let(U,W,p,hz):=I1.list J;apply Rz p.isList ?_;apply(j.Z,[j.Z],_,_,H1,Á,I1.kept (t':=j.toks) λb o e=>du _ e,acW a _,⟨_,ia _ Á,Á,Á⟩,λb z=>?_,q);let e:b=j.Z:=À z
 subst e;exact I1.wO (bA _) Äg
def SG{pins:cb}{σ:St}{H:Hp}{s:Sh}{R:It->Hp->Prop}{E:VP}{lo hi:Int}{t u v:Tok}{tk:Nat}(I:Ã H s)(F: -(2^62)<=lo)(h2:lo<2^62)(J: -(2^62)<=hi)(M:hi<2^62)(q:R (yw lo (hi-lo).toNat) H):wpAny È X.A (pyIter ú) Åj E {s with heap:=s.o {cls:=.type "range",data:=.fields #[.int lo t,.int hi u,.int 1 v]},toks:=tk}:=by
 apply wpAny_pyIter_range (IsRange.new ..) (small_one F h2 J M) ?_;let I1:Ã H {s with heap:=s.o {cls:=.type "range",data:=.fields #[.int lo t,.int hi u,.int 1 v]},toks:=tk}:=I.kept λb o e=>du _ e;refine⟨(s.o {cls:=.type "range",data:=.fields #[.int lo t,.int hi u,.int 1 v]}).O,[(s.o {cls:=.type "range",data:=.fields #[.int lo t,.int hi u,.int 1 v]}).O],_,_,H,Á,
  I1.kept (t':=tk) λb o e=>du _ e,acX _ lo (hi-lo).toNat,?_,λb O=>?_,q⟩
 .let j:lo+((0:Nat):Int)*1=lo:=by simp
  let z:(((hi-lo).toNat:Nat):Int)-((0:Nat):Int)=Builtin.Range.rangeSize lo hi 1:=by rw[rangeSize_one];split <;> grind
  show IsRangeIter _ _ (lo+((0:Nat):Int)*1) ((((hi-lo).toNat:Nat):Int)-((0:Nat):Int)) 1;rw[j,z];exact ia _ Á
 .let e:b=(s.o {cls:=.type "range",data:=.fields #[.int lo t,.int hi u,.int 1 v]}).O:=by simpa using O
  subst e;exact I1.wO (bA _) Äg
def acZ(ta:TA):TI:=λσ H R=>ta σ H λvs H1=>∃j:Int,vs=[.int j]/\ -(2^62)<=j/\j<2^62/\R (yw 0 j.toNat) H1
def ac0(ta:TA):TI:=λσ H R=>ta σ H λvs H1=>∃i j:Int,vs=[.int i,.int j]/\(-(2^62)<=i/\i<2^62/\ -(2^62)<=j/\j<2^62)/\R (yw i (j-i).toNat) H1
def FJ{a:Expr}{ta:TA}{p pos:Pos}(hg:Gl X "range")(hm:X.mg "range"=Β)(J:PA X [a] ta)(hs:starEach [a] X.env=[(false,eval a X.env)]:=by rfl):PI X tg (.Call (.Name "range" p) [a] [] pos) (acZ ta):=by
 intro pins s σ H R I h;apply Call_ (Àq boot_range (Fg (aP (J pos pins s σ H _ I h) λY W ⟨vs,H1,F,O,z⟩=>?_) hs Á));let(j,e,z,M,q):=z;subst e;cases O with
 |cons r U=>
  cases U;let(t,rfl):=r;exact call_range_1 (SG F Å Å z M Å)
def ac1(hg:Gl X "range")(hm:X.mg "range"=Β)(M:PA X [a,b] ta)(hs:starEach [a,b] X.env=[(false,eval a X.env),(false,eval b X.env)]:=by rfl)(Y:starEach [b] X.env=[(false,eval b X.env)]:=by rfl):
  PI X tg (.Call (.Name "range" p) [a,b] [] pos) (ac0 ta):=by
 intro pins s σ H R I h;apply Call_ (Àq boot_range (Fg (aP (M pos pins s σ H _ I h) λus s1 ⟨vs,H1,J,r1,z⟩=>?_) Å (by rw[Y];rfl)));let(i,j,e,(z,O,U,W),q):=z;subst e;cases r1 with
 |cons r F=>
  cases F with
  |cons Z F=>
   cases F;let(t,rfl):=r;let(t',rfl):=Z;exact call_range_2 (SG J z O U W q)
def ac2(q:TI)(g:TG)(tb:TS):TS:=λD σ H=>q σ H λJ H1=>∃W:Nat->Nat->St->Hp->Prop,(∃m,W 0 m σ H1)/\∀i m σ H,W i m σ H->
 (J.stop i H/\D.nx σ H)\/(J.go i H/\∃N:St->Hp->Prop,(∀σ' H',N σ' H'->∃M,M<m/\W (i+1) M σ' H')/\∀x H',J.ou i H x H'->g x σ H' λσ2 j=>tb {D with nx:=N,ct:=N,bk:=D.nx} σ2 j)
def Cr(fp:LA)(h:Heap):cb:=fp.filterMap λb=>(h.I b).M λo=>(b,o)
def Kh(j:b∈fp)(e:h.I b=Α o):(b,o)∈Cr fp h:=Jz.mpr ⟨b,j,by rw[e];rfl⟩
def ac3(j:p∈Cr fp h):p.1∈fp/\h.I p.1=Α p.2:=by
 let(b,z,e):=Jz.mp j;cases q:h.I b with
 |none=>symm
 |some o=>
  grind
def Inv.pinned(I:Ã H s)(O:∀b∈fp,ň H b)(U:∀b∈fp,∃o,s.U b=Α o/\∀v,o.data≠ .cell v):Inv X (pins++Cr fp s.H) σ H s:=
 I.J7 λp W=>(fu.mp W).elim (λz=>I.pin p (rG _ z)) λz=>by
  let(q,e):=ac3 z;let(F,J,M,_):=O p.1 q;let(o,j,d):=U p.1 q;rw[e] at j;cases j;exact(e,F,J,M,d)
def Inv.FK(I:Inv X (pins++pl) σ H s):Ã H s:=I.J7 λp j=>I.pin p (rG _ (wD _ j))
def i6(M:PassesOwn È X.A X.env X.xe)(hc:X.calm=true)(hi:PI X tg iter wi)(hg:PG X tg g)(z:l6 X pj tb)(hs:∀x,foldedSetIterable iter X.env x=pure x:=by intro _;rfl):PS X (.For tg iter pj [] pos) (ac2 wi g tb):=by
 intro pins s σ H D I h;apply wpAny_For (aP (hi pins s σ H _ I h) λv s1 h1=>aP h1 λKg s2 h2=>?_) hs;let(it,fp,tn,J,H2,e,I2,T,FL,f2,W,(m0,w0),turn):=h2;subst e;let yx:∀{H':Hp},(∀b∈fp,H' b=Β)->∀b∈fp,ň H' b:=λhn b z=>⟨hn b z,(f2 b z).2⟩;apply codeAny_forLoop_any (λn s'=>∃i σ' H',ϳ s'/\tn i s'.H/\(∀b∈fp,H' b=Β)/\W i n σ' H') ?_ m0 ⟨0,σ,H2,I2,FL,λb z=>(f2 b z).1,w0⟩;rintro n s3 ⟨i,σ3,U,I3,FM,SH,w3⟩;rcases turn i n σ3 U w3 with ⟨stop,qn⟩|⟨go,N,hN,step⟩
 .apply BW M (aP (T.done X Á Á Á hc i pins s3 σ3 U X.xe I3 (yx SH) FM stop) λr s4 ⟨hr,I4⟩=>?_);subst hr;exact Ff ⟨σ3,U,I4,qn⟩
 .apply BW M (aP (T.item X Á Á Á hc i pins s3 σ3 U X.xe I3 (yx SH) FM go) λr s4 ⟨u,hr,h4⟩=>?_);subst hr;apply BW M (aP h4 λ_ s5 ⟨x,H5,I5,r5,y5,Y,fr5⟩=>?_);let Z:=I5.pinned (yx fr5) (T.obj _ _ Y);apply BW M (aP (hg _ s5 σ3 H5 x u _ Z r5 (step x H5 y5)) λ_ s6 ⟨σ6,H6,I6,q6⟩=>?_);apply BW M (aP (z _ s6 σ6 H6 _ I6 q6) λf s7 F=>?_);let again:∀{σ7:St}{j:Hp},Inv X (pins++Cr fp s5.H) σ7 j s7->N σ7 j->∃m,m<n/\∃i σ' H',ϳ s7/\tn i s7.H/\(∀b∈fp,H' b=Β)/\W i m σ' H':=λ{σ7 j}q O=>by
   let(m',hm,w7):=hN σ7 j O;apply(m',hm,i+1,σ7,j,q.FK,T.keep _ _ _ Y λb z o e=>(q.pin (b,o) (rG _ (rG _ (Kh z e)))).1,λb z=>?_,w7);let(o,e,d):=T.obj _ _ Y b z;exact(q.pin (b,o) (rG _ (rG _ (Kh z e)))).2.1
  cases f with
  |next=>let(σ7,j,q,O):=F;exact again q O
  |cont=>let(σ7,j,q,O):=F;exact again q O
  |brk=>let(σ7,j,q,F):=F;exact(σ7,j,q.FK,F)
  |ret v=>let(x7,σ7,j,q,r7,F):=F;exact(x7,σ7,j,q.FK,r7,F)
def pJ{K:FR}{a:Addr}{xs:ay}{g:TG}{tb:TS}{D:Ends}{σ:St}{H:Hp}(Pv:Nat->St->Hp->Prop)(h0:Pv 0 σ H)(F:∀i σ H,i<=xs.L->Pv i σ H->ä a xs)(hs:∀i x σ H,xs[i]? =Α x->Pv i σ H->g x σ H λσ2 j=>tb {D with nx:=Pv (i+1),ct:=Pv (i+1),bk:=D.nx} σ2 j) (hd:∀σ H,Pv xs.L σ H->D.nx σ H):
  ∃W:Nat->Nat->St->Hp->Prop,(∃m,W 0 m σ H)/\∀i m σ H,W i m σ H->
   ((wQ K a).stop i H/\D.nx σ H)\/((wQ K a).go i H/\∃N:St->Hp->Prop,(∀σ' H',N σ' H'->∃M,M<m/\W (i+1) M σ' H')/\∀x H',(wQ K a).ou i H x H'->g x σ H' λσ2 j=>tb {D with nx:=N,ct:=N,bk:=D.nx} σ2 j):=by
 refine ï;rintro i m σ H ⟨rfl,hi,p⟩;let q:=F i σ H hi p;by_cases z:i<xs.L
 .apply .inr ⟨⟨xs,xs[i],q,by simp[z]⟩,Pv (i+1),λσ' H' J=>⟨xs.L-(i+1),by grind,rfl,z,J⟩,λx H' y=>?_⟩;let(e,y):=y;subst e;exact hs i x σ _ (y xs q) p
 .let e:i=xs.L:=by lia
  subst e;exact .inl ⟨⟨xs,q,bA _⟩,hd σ H p⟩
abbrev R2:=V->V->Hp->VK->Prop
def fh(X:Cx)(f:Value->Value->Sem Value)(r:R2):Prop:=
 ∀(pins:cb)(s:Sh)(σ:St)(H:Hp)(x y:V)(v u:Value)(Q:VK),Ã H s->RelV x v->RelV y u->r x y H Q->
  wpAny È X.A (f v u) (ô Q) X.xe s
def FO(X:Cx)(f:Value->Sem Value)(r:V->Hp->VK->Prop):Prop:=
 ∀(pins:cb)(s:Sh)(σ:St)(H:Hp)(x:V)(v:Value)(Q:VK),Ã H s->RelV x v->r x H Q->
  wpAny È X.A (f v) (ô Q) X.xe s
def k9(X:Cx)(f:Value)(r:ay->Hp->VK->Prop):Prop:=
 ∀(pins:cb)(s:Sh)(σ:St)(H:Hp)(xs:ay)(U:LV)(Q:VK),Ã H s->bp xs U->r xs H Q->
  wpAny È X.A (call f U) (ô Q) X.xe s
def ac6(X:Cx)(r:V->Hp->(Bool->Hp->Prop)->Prop):Prop:=
 ∀(pins:cb)(s:Sh)(σ:St)(H:Hp)(x:V)(v:Value)(Q:Bool->Hp->Prop),Ã H s->RelV x v->r x H Q->
  wpAny È X.A (truthy v) Ãj X.xe s
def bQ(r:R2)(ta tb:TE):TE:=λσ H Q=>ta σ H λx H1=>tb σ H1 λy j=>r x y j Q
def FP(r:V->Hp->VK->Prop)(ta:TE):TE:=λσ H Q=>ta σ H λx H1=>r x H1 Q
inductive rI(C:Int->Int->Prop)(g:Int->Int->V)(x:V)(y:V)(H:Hp)(Q:VK):Prop
 |mk (i j:_) (_:x=.int i) (_:y=.int j) (_:C i j) (_:Q Äz H)
inductive gE(g:Int->Int->V)(x:V)(y:V)(H:Hp)(Q:VK):Prop
 |mk (i j:_) (_:x=.int i) (_:y=.int j) (_:Q Äz H)
inductive rU(g:Int->V)(x:V)(H:Hp)(Q:VK):Prop
 |mk (i:_) (_:x=.int i) (_:Q (g i) H)
def Ki(J:ϲ ta)(M:PE X b tb){pins:cb}{s:Sh}{σ:St}{H:Hp}{R:V->V->Hp->Prop}(I:Ã H s)(h:ta σ H λx H1=>tb σ H1 λy j=>R x y j) {Q:VP} {f:Value->Value->Sem Value}(O:∀v u q x y j,Ã j q->RelV x v->RelV y u->R x y j->wpAny È X.A (f v u) Q X.xe q):
  wpAny È X.A (eval a X.env) (λv s₁=>wpAny È X.A (eval b X.env) (λu s₂=>wpAny È X.A (f v u) Q X.xe s₂) X.xe s₁) X.xe s:=by
 apply aP (J pins s σ H _ I h) λv s1 ⟨x,H1,z,Y,U⟩=>?_;apply aP (M pins s1 σ H1 _ z U) λu q ⟨y,j,F,Z,W⟩=>?_;exact O v u q x y j F Y Z W
def d9{op:Operator}{r:R2}(M:fh X (binaryOp op) r)(F:ϲ ta)(J:PE X b tb):PE X (.BinOp a op b pos) Çq:=by
 show Ú;exact wpAny_BinOp (Ki F J I h λv u W x y j z O U q=>M pins W σ j x y v u Q z O U q)
def iU(z:FO X (unaryOp op) r)(q:ϲ ta):PE X (.UnaryOp op a pos) (FP r ta):=by
 show Ú;exact UnaryOp_ (aP (q pins s σ H _ I h) λv M ⟨x,H1,j,J,F⟩=>z pins M σ H1 x v Q j J F)
def Cu{f:Value->Value->Sem Value}{C:Int->Int->Prop}{g:Int->Int->Int}(rule:∀(i j:Int)(t u:Tok)(s:Sh)(Q:VP)(E:VP),C i j->Q (.int Äz s.toks) {s with toks:=s.toks+1}->wpAny È X.A (f Âl (.int j u)) Q E s):
  fh X f (rI C λi j=>.int Äz):=by
 show ð;let(i,j,rfl,rfl,hc,q):=h;let(t,rfl):=rx;let(t',rfl):=ry;exact rule i j t t' s _ _ hc ⟨.int Äz,H,I.tok _,⟨_,Á⟩,q⟩
def FQ{f:Value->Value->Sem Value}{g:Int->Int->Int}(rule:∀(i j:Int)(t u:Tok)(s:Sh)(Q:VP)(E:VP),Q (.int Äz s.toks) {s with toks:=s.toks+1}->wpAny È X.A (f Âl (.int j u)) Q E s):
  fh X f (gE λi j=>.int Äz):=by
 show ð;let(i,j,rfl,rfl,q):=h;let(t,rfl):=rx;let(t',rfl):=ry;exact rule i j t t' s _ _ ⟨.int Äz,H,I.tok _,⟨_,Á⟩,q⟩
def Kj{f:Value->Value->Sem Value}{g:Int->Int->Bool}(rule:∀(i j:Int)(t u:Tok)(s:Sh)(Q:VP)(E:VP),Q (.bool Äz) s->wpAny È X.A (f Âl (.int j u)) Q E s):
  fh X f (gE λi j=>.bl Äz):=by
 show ð;let(i,j,rfl,rfl,q):=h;let(t,rfl):=rx;let(t',rfl):=ry;exact rule i j t t' s _ _ ⟨.bl Äz,H,I,Á,q⟩
def ac7(i j:Int):Prop:=0<j/\j<1073741824
def Kk(i j:Int):Prop:=0<=j/\j<=1000000/\i.natAbs<2^64
def FS(i j:Int):Prop:=(-(2^64)<i/\i<2^64)\/(-(2^64)<j/\j<2^64)
def FS.ok(h:FS i j):IntMulOk i j:=by
 rcases h with ⟨q,h2⟩|⟨q,h2⟩
 .exact .of_left (intBits_le_64 q h2)
 .exact .of_right (intBits_le_64 q h2)
def ac8(k:Nat):(0:Int)<=2^k:=by
 grind
def pK:fh X (binaryOp .Add) (gE λi j=>.int (i+j)):=FQ λ_ _ _ _ _ _ _ q=>add_int q
def rV:fh X (binaryOp .Sub) (gE λi j=>.int (i-j)):=FQ λ_ _ _ _ _ _ _ q=>sub_int q
def SJ:fh X (binaryOp .Mult) (rI FS λi j=>.int (i*j)):=Cu λ_ _ _ _ _ _ _ hc q=>mul_int q hc.ok
def ac9:fh X (binaryOp .FloorDiv) (rI ac7 λi j=>.int (i/j)):=Cu λi j _ _ _ _ _ hc q=>by
 let z:(0:Int)<j:=hc.1;let h2:j<1073741824:=hc.2;exact floordiv_int Î (by grind) (.inl (PyProof.noPylong_small (by omega)))
def Kl:fh X (binaryOp .Mod) (rI (λ_ j=>0<j) λi j=>.int (i%j)):=Cu λi j _ _ _ _ _ hc q=>by
 let z:(0:Int)<j:=hc;exact mod_int' Î (by rw[Int.fmod_eq_emod_of_nonneg i Î];exact q)
def FT:fh X (binaryOp .LShift) (rI Kk λi j=>.int (i*2^j.toNat)):=Cu λ_ _ _ _ _ _ _ hc q=>lshift_int_small hc.1 hc.2.1 hc.2.2 q
def Km:fh X (binaryOp .RShift) (rI (λ_ j=>0<=j) λi j=>.int (i/2^j.toNat)):=Cu λi j _ _ _ _ _ hc q=>
 rshift_int hc (by rw[Int.fdiv_eq_ediv_of_nonneg i (ac8 _)];exact q)
def yy:fh X (binaryOp .BitAnd) (gE λi j=>.int ś):=FQ λ_ _ _ _ _ _ _ q=>and_int q
def SK:fh X (inplaceOp .Add) (gE λi j=>.int (i+j)):=FQ λ_ _ _ _ _ _ _ q=>iadd_int q
def SL{f:Value->Sem Value}{g:Int->Int}(rule:∀(i:Int)(t:Tok)(s:Sh)(Q:VP)(E:VP),Q (.int (g i) s.toks) {s with toks:=s.toks+1}->wpAny È X.A (f Âl) Q E s):
  FO X f (rU λi=>.int (g i)):=by
 intro pins s σ H x v Q I j h;let(i,rfl,q):=h;let(t,rfl):=j;exact rule i t s _ _ ⟨.int (g i),H,I.tok _,⟨_,Á⟩,q⟩
def jj:FO X (unaryOp .USub) (rU λi=>.int (-i)):=SL λ_ _ _ _ _ q=>neg_int q
def SM:FO X (unaryOp .Invert) (rU λi=>.int Ås):=SL λ_ _ _ _ _ q=>invert_int q
def SN:V->V->Bool
 |.aO,.aO=>true|.aO,.int _=>true|.int _,.aO=>true|.aO,.bl _=>true|.bl _,.aO=>true|.aO,.str _=>true|.str _,.aO=>true
 |.int _,.int _=>true|.bl _,.bl _=>true|.str _,.str _=>true|.jJ _,.jJ _=>true
 |.int _,.str _=>true|.str _,.int _=>true|.bl _,.str _=>true|.str _,.bl _=>true
 |_,_=>false
def pL:R2:=λx y H Q=>SN x y=true/\Q (.bl (decide (x=y))) H
def rNe:R2:=λx y H Q=>SN x y=true/\Q (.bl (!decide (x=y))) H
def nF:decide (V.int i=V.int j)=(i==j):=by
 grind
def SO:decide (V.bl i=V.bl j)=(i==j):=by
 grind
def SQ:decide (V.str i=V.str j)=(i==j):=by
 grind
def SR:decide (V.jJ i=V.jJ j)=(i.toList==j.toList):=by
 rw[qx];simp
def gR(I:Ã H s)(q:Q (.bl k) H)(e:k=k'):ô Q (.bool k') s:=by
 subst e;exact(.bl k,H,I,Á,q)
def iB:fh X Áz pL:=by
 show ð;let(hs,q):=h;cases x with
 |aO=>
  cases rx;cases y with
  |aO=>cases ry;exact PySem.EqNone.eq_none_none ċ
  |bl j=>cases ry;exact PySem.EqNone.eq_none_bool ċ
  |int j=>let(t',rfl):=ry;exact PySem.EqNone.eq_none_int ċ
  |str j=>let(t',rfl):=ry;exact PySem.EqNone.eq_none_str ċ
  |_=>exact absurd (show false=true from hs) eN
 |bl i=>
  cases rx;cases y with
  |aO=>cases ry;exact PySem.EqNone.eq_bool_none ċ
  |bl j=>cases ry;exact eq_bool (gR I q SO)
  |str j=>let(t',rfl):=ry;exact PySem.EqMixed.eq_bool_str ċ
  |_=>exact absurd (show false=true from hs) eN
 |int i=>
  let(t,rfl):=rx;cases y with
  |aO=>cases ry;exact PySem.EqNone.eq_int_none ċ
  |int j=>let(t',rfl):=ry;exact eq_int (gR I q nF)
  |str j=>let(t',rfl):=ry;exact PySem.EqMixed.eq_int_str ċ
  |_=>exact absurd (show false=true from hs) eN
 |str i=>
  let(t,rfl):=rx;cases y with
  |aO=>cases ry;exact PySem.EqNone.eq_str_none ċ
  |bl j=>cases ry;exact PySem.EqMixed.eq_str_bool ċ
  |int j=>let(t',rfl):=ry;exact PySem.EqMixed.eq_str_int ċ
  |str j=>let(t',rfl):=ry;exact eq_str (gR I q SQ)
  |_=>exact absurd (show false=true from hs) eN
 |jJ i=>
  let(t,rfl):=rx;cases y with
  |jJ j=>let(t',rfl):=ry;exact PySem.W.eq_bytes (gR I q SR)
  |_=>exact absurd (show false=true from hs) eN
 |_=>cases y <;> exact absurd (show false=true from hs) eN
def wR:fh X Âi rNe:=by
 show ð;let(hs,q):=h;cases x with
 |aO=>
  cases rx;cases y with
  |aO=>cases ry;exact PySem.EqNone.ne_none_none ċ
  |bl j=>cases ry;exact PySem.EqNone.ne_none_bool ċ
  |int j=>let(t',rfl):=ry;exact PySem.EqNone.ne_none_int ċ
  |str j=>let(t',rfl):=ry;exact PySem.EqNone.ne_none_str ċ
  |_=>exact absurd (show false=true from hs) eN
 |bl i=>
  cases rx;cases y with
  |aO=>cases ry;exact PySem.EqNone.ne_bool_none ċ
  |bl j=>cases ry;exact ne_bool (gR I q (b9 not SO))
  |str j=>let(t',rfl):=ry;exact PySem.EqMixed.ne_bool_str ċ
  |_=>exact absurd (show false=true from hs) eN
 |int i=>
  let(t,rfl):=rx;cases y with
  |aO=>cases ry;exact PySem.EqNone.ne_int_none ċ
  |int j=>let(t',rfl):=ry;exact ne_int (gR I q (b9 not nF))
  |str j=>let(t',rfl):=ry;exact PySem.EqMixed.ne_int_str ċ
  |_=>exact absurd (show false=true from hs) eN
 |str i=>
  let(t,rfl):=rx;cases y with
  |aO=>cases ry;exact PySem.EqNone.ne_str_none ċ
  |bl j=>cases ry;exact PySem.EqMixed.ne_str_bool ċ
  |int j=>let(t',rfl):=ry;exact PySem.EqMixed.ne_str_int ċ
  |str j=>let(t',rfl):=ry;exact ne_str (gR I q (b9 not SQ))
  |_=>exact absurd (show false=true from hs) eN
 |jJ i=>
  let(t,rfl):=rx;cases y with
  |jJ j=>let(t',rfl):=ry;exact PySem.W.ne_bytes (gR I q (b9 not SR))
  |_=>exact absurd (show false=true from hs) eN
 |_=>cases y <;> exact absurd (show false=true from hs) eN
def yz:fh X Èh (gE λi j=>.bl (decide (i<j))):=Kj λ_ _ _ _ _ _ _ q=>lt_int q
def yA:fh X (compareOp .LtE) (gE λi j=>.bl (decide (i<=j))):=Kj λ_ _ _ _ _ _ _ q=>le_int q
def rW:fh X (compareOp .Gt) (gE λi j=>.bl (decide (j<i))):=Kj λ_ _ _ _ _ _ _ q=>gt_int q
def bU(b:Expr)(h:op≠ .In:=by decide)(h2:op≠ .NotIn:=by decide):behindInMarks op b=false:=by
 let j:(op==CmpOp.In)=false:=by cases op <;> first|rfl|exact absurd Á h
 let q:(op==CmpOp.NotIn)=false:=by cases op <;> first|rfl|exact absurd Á h2
 cases b <;> simp[behindInMarks,j,q]
def j7{op:CmpOp}{r:R2}(O:fh X Åf r)(F:ϲ ta)(J:PE X b tb)(M:behindInMarks op b=false):PE X ϡ Çq:=by
 show Ú;exact wpAny_Compare1 (Ki F J I h λv u Y x y j z U W q=>O pins Y σ j x y v u Q z U W q) M
def mX(t:TE):TT:=λσ H Q=>t σ H λx H'=>Af x λk=>Q k H'
def cw(Y:fh X Åf r)(O:ϲ ta)(U:PE X b tb)(W:behindInMarks op b=false):PT X ϡ (mX Çq):=by
 show Ú;refine wpAny_isTrue_Compare1 (aP (O pins s σ H _ I h) λv s1 ⟨x,H1,F,r1,Z⟩=>aP (U pins s1 σ H1 _ F Z) λu s2 ⟨y,j,J,r2,q2⟩=>
  aP (Y pins s2 σ j x y v u _ J r1 r2 q2) λc s3 ⟨z,q,M,r3,k,e,q3⟩=>?_) W
 subst e;cases r3;exact tp ⟨q,M,q3⟩
def Ko(r J:R2)(ta tb M:TE):TE:=λσ H Q=>ta σ H λx H1=>tb σ H1 λy q=>r x y q λz j=>Af z λk=>
 (if k=true then M σ j λW F=>J y W F Q else Q (.bl false) j)
theorem SS(ho:fh X Åf r)(ot:fh X (compareOp op') r')(Z:ϲ ta)(hb:PE X b tb)(hc:PE X c tc)(hm:lastMarks [op,op'] [b,c]=false:=by with_unfolding_all rfl):PE X (.Compare a [op,op'] [b,c] pos) (Ko r r' ta tb tc):=by
 show Ú;refine Compare_chain (aP (Z pins s σ H _ I h) λv s1 ⟨x,H1,U,r1,q1⟩=>chain_link (aP (hb pins s1 σ H1 _ U q1) λu s2 ⟨y,M,W,J,q2⟩=>
  aP (ho pins s2 σ M x y v u _ W r1 J q2) λd s3 ⟨z,j,q,r3,k,e,F⟩=>?_)) hm
 subst e;cases r3;apply tp ?_;cases k with
 |false=>exact ite_ff ⟨.bl false,j,q,Á,F⟩
 |true=>exact ite_tt (chain_last (aP (hc pins s3 σ j _ q F) λw' s4 ⟨z',O,Y,r4,q4⟩=>ot pins s4 σ O y z' u w' Q Y J r4 q4))
theorem adb(ho:fh X Åf r)(ot:fh X (compareOp op') r')(ha:ϲ ta)(hb:PE X b tb)(hc:PE X c tc)(hm:lastMarks [op,op'] [b,c]=false:=by with_unfolding_all rfl):PT X (.Compare a [op,op'] [b,c] pos) (mX (Ko r r' ta tb tc)):=by
 show Ú;refine isTrue_chain (aP (ha pins s σ H _ I h) λv s1 ⟨x,H1,W,r1,q1⟩=>test_link (aP (hb pins s1 σ H1 _ W q1) λu s2 ⟨y,M,Y,J,q2⟩=>
  aP (ho pins s2 σ M x y v u _ Y r1 J q2) λd s3 ⟨z,j,q,r3,k,e,F⟩=>?_)) hm
 subst e;cases r3;apply tp ?_;cases k with
 |false=>
  let(k',e',q'):=F;cases e';exact ite_ff ⟨j,q,q'⟩
 |true=>
  apply ite_tt (test_last (aP (hc pins s3 σ j _ q F) λw' s4 ⟨z',O,Z,r4,q4⟩=>aP (ot pins s4 σ O y z' u w' _ Z J r4 q4) λd' s5 ⟨z2,U,I5,r5,k2,e2,q5⟩=>?_));subst e2;cases r5;exact tp ⟨U,I5,q5⟩
def Kq(K:FR)(x:V)(H:Hp)(k:Bool):Prop:=
 match x with
 |.aO=>k=false
 |.bl b=>k=b
 |.int i=>k=(i !=0)
 |.str y=>y.L<=sizeLine/\k=((y.L:Int)!=0)
 |.jJ y=>y.u<=sizeLine/\k=((y.u:Int)!=0)
 |.ref p=>(∃xs,ä p xs/\k=!xs.isEmpty)\/(∃xs,š p xs/\k=!xs.isEmpty)\/∃kvs,H p=Α đ/\k=!kvs.isEmpty
 |_=>False
def ade(r:KV kvs vs):(!vs.isEmpty)=!kvs.isEmpty:=by
 cases r <;> rfl
def SU(r:bp xs aj):(!aj.toArray.isEmpty)=!xs.isEmpty:=by
 cases r <;> simp
def FU:(sizeLine:Nat)<2^63:=by rw[yg];decide
def adf:ac6 X (λx H Q=>∃k,Kq X.K x H k/\Q k H):=by
 intro pins s σ H x v Q I z h;let(k,e,q):=h;let Y:=FU;let hs:sizeLine=16777216:=yg;cases x with
 |aO=>
  cases z;let j:k=false:=e;subst j;exact truthy_none ⟨H,I,q⟩
 |bl b=>
  cases z;let j:k=b:=e;subst j;exact tp ⟨H,I,q⟩
 |int i=>
  let(t,rfl):=z;let j:k=(i !=0):=e;subst j;exact PySem.P.truthy_int ⟨H,I,q⟩
 |str y=>
  let(t,rfl):=z;obtain⟨U,j⟩:y.L<=sizeLine/\k=((y.L:Int)!=0):=e;subst j;exact PySem.P.truthy_str Î ⟨H,I.tok _,q⟩
 |jJ y=>
  let(t,rfl):=z;obtain⟨U,j⟩:y.u<=sizeLine/\k=((y.u:Int)!=0):=e;subst j;exact PySem.W.truthy_bytes Î ⟨H,I.tok _,q⟩
 |ref p=>
  cases z;let j:(∃xs,Ák p xs/\k=!xs.isEmpty)\/(∃xs,bw X.K H p xs/\k=!xs.isEmpty)\/∃kvs,H p=Α đ/\k=!kvs.isEmpty:=e;rcases j with ⟨xs,F,j⟩|⟨xs,F,j⟩|⟨kvs,F,j⟩
  .subst j;let(M,r,pl,hz):=I.list F;let J:=r.L;exact wpAny_truthy_list pl.isList (by grind) ⟨H,I.tok _,by rw[SU r];exact q⟩
  .subst j;let(M,r,pl,hz):=I.tuple F;let J:=r.L;exact truthy_tuple pl (by grind) ⟨H,I.tok _,by rw[SU r];exact q⟩
  .subst j;obtain⟨hz,O,vs,r,m⟩:kvs.L<=sizeLine/\(p==sysModules)=false/\∃vs,KV kvs vs/\s.H.DictOf Č p vs:=I.aD p _ F;let J:kvs.L=vs.L:=Paired.length r;exact wpAny_truthy_dict O m Î ⟨H,I.tok _,by rw[ade r];exact q⟩
 |_=>exact(show False from e).elim
def Ai(q:ϲ ta)(z:∀whole,isTrue a X.env whole=(do let v <-whole;standAt a.pos;holding [v] (truthy v))):
  PT X a (λσ H Q=>ta σ H λx H'=>∃k,Kq X.K x H' k/\Q k H'):=by
 show Ú;exact isTrue_plain (aP (q pins s σ H _ I h) λv M ⟨x,H1,j,J,F⟩=>adf pins M σ H1 x v Q j J F) (z _)
theorem vals1{x:V}{U:LV}(r:bp [x] U):∃u,U=[u]/\RelV x u:=by
 cases r with
 |cons j q=>cases q;exact(_,Á,j)
theorem vals2(r:bp [x,y] us):∃u W,us=[u,W]/\RelV x u/\RelV y W:=by
 cases r with
 |cons j q=>
  cases q with
  |cons z F=>cases F;exact(_,_,Á,j,z)
def Kr(hc:X.calm=true):k9 X (.builtin "max") (λxs H Q=>∃i j,xs=[.int i,.int j]/\Q (.int (if j>i then j else i)) H):=by
 intro pins s σ H xs U Q I r h;let(i,j,rfl,q):=h;let(u,W,rfl,(t,rfl),(t',rfl)):=vals2 r;apply max_two_ints ă λh' tk k=>⟨_,H,I.kept k,?_,q⟩;by_cases z:j>i
 .rw[ah z,ah z];exact(_,Á)
 .rw[ag z,ag z];exact(_,Á)
def adg:k9 X (.builtin "ord") (λxs H Q=>∃x,xs=[.str x]/\x.L=1/\Q (.int (x.cps.D 0 0:Nat)) H):=by
 intro pins s σ H xs U Q I r h;let(x,rfl,hz,q):=h;let(u,rfl,t,rfl):=vals1 r;exact ord_of_one hz ⟨.int _,H,I.tok _,⟨_,Á⟩,q⟩
structure Aj(h:Heap)(x dx C:Addr)(mA:MG):Prop where
 obj:h.I x=Α Ãk
 ns:h.Ns1 dx mA
 ne:dx≠x
def adh{h:Heap}{dx:Addr}{mA:MG}(n:h.Ns1 dx mA):∃od,h.I dx=Α od/\∀name,PySem.W.lookIn name od=Α (mA name):=by
 let(o,es,ep,J,hd,hk,_,F):=n;apply(o,J,λname=>?_);let e:=F name;delta nsFind findBy at e;rw[<-Array.find?_toList] at e;ext PySem.W.lookIn;rw[hd];dsimp only;split
 .symm
 .rename_i q;rw[q] at e;let a:es.toList.any (·.refKey)=false:=by
   rw[List.any_eq_false];intro y M;let(z,t,j):=hk y (Array.mem_toList_iff.mp M);simp[DictEntry.refKey,j]
  symm
def Aj.look(I:Aj h x dx C mA):∃od,PySem.W.InstAt h x Ãk C (some od)/\∀name,PySem.W.lookIn name od=Α (mA name):=
 let ⟨od,ho,hl⟩:=adh I.ns
 ⟨od,⟨I.obj,rfl,rfl,ho⟩,hl⟩
section
variable{prog:Pg}{w:Wd}{A:Around}{E:VP}{s:Sh}{K:FR}{x dx C f:Addr}{mA:MG}{name:Str}{v:Value}
def get_map{j:Bool}{Q:VP}(X:K.In s.H)(I:Aj s.H x dx C mA)(F:PySem.W.plainGet K C name=true)(M:PySem.W.hasDictIn K C=true)(z:PySem.W.findIn K Ĉ name=Α none) (U:mA name=Α v) (q:PySem.W.handedIn v=true) (h:Q v {s with toks:=s.toks+1}):
  wpAny Í A (getAttr ŧ name j) Q E s:=by
 let(od,J,O):=I.look;exact PySem.W.get_value X J (PySem.W.plainGet_of F).1 (PySem.W.findObj_own M z Á Å) q h
def adi{ns:LS}{Q:Unit->Shared->Prop}(X:K.In s.H)(I:Aj s.H x dx C mA)(hs:PySem.W.findIn K Ĉ "__setattr__"=Α (some (.builtin "object.__setattr__"))) (Z:PySem.W.plainOver K C=true) (ht:PySem.W.takerIn K C name=Α none) (Y:PySem.W.hasDictIn K C=true)(hw:PySem.Within mA ns) (hsz:ns.L<=sizeLine)(h:∀h',Aj h' x dx C (λy=>if y=name then some v else mA y)->Heap.SameBut dx s.H h'->Q () {s with heap:=h',toks:=s.toks+2}):
  wpAny Í A Ät Q E s:=by
 let(od,J,hl):=I.look;apply PySem.W.set_plain X J hs (PySem.W.osa_open (s:={s with toks:=s.toks+1}) (r:=Β) X J Z ht λb=>?_);let(cd,hc,j6):=PySem.W.any_some Y;let hx:s.U x=Α ⟨.ref C,some dx,.plain,#[]⟩:=I.obj;apply aF (cV (aF (aF (wpAny_loadPart hx (aF (PySem.W.Looks.here (s:={s with toks:=s.toks+1}) (PySem.W.looks_clsIn X hc) ?_))))));rw[j6];apply cV (a:=Α dx) (aF (cV (aF ?_)));apply wpAny_nsSet1 (s:={s with toks:=s.toks+1}) I.ns λh' F M=>?_;let(oD,U,O,z,q,j):=F.count (PySem.Within.cons name v hw);apply aF (wpAny_lookBehind z (by rw[q];exact pastItsLine_dict (gn j (by rw[dg];symm))) ?_);exact cV (h _ ⟨(M.2 _ (eE I.ne)).R I.obj,F,I.ne⟩ M)
def adm{R:Result->Shared->Prop}{vs:LV}{kw:List (Str×Value)}(X:K.In s.H)(q:PySem.W.makesIn K C=true)(hi:PySem.W.findIn K Ĉ "__init__"=Α Âr) (j:PySem.W.typeIn K ď=Α (.type "function"))(h:codeAny Í (A.under (.builtin "type.__call__" ⟨.ref C::vs,kw⟩)) (.call ď ⟨.ref Û::vs,kw⟩) (PySem.W.InitBack Û R) {s with heap:=(s.o PySem.W.emptyDict).push Ł}):
  codeAny Í A (.call Ĉ ⟨vs,kw⟩) R s:=by
 let(z,g,d,t,os):=s;exact PySem.W.make_core (PySem.W.makes_of X q) (PySem.W.looks_findIn X hi) (λself=>PySem.W.bind_fn X self j) ĝ h
end
def iE(f:Str)(v:V):List (Str×V)->List (Str×V)
 |[]=>[(f,v)]
 |(g,x)::r=>if g=f then (g,v)::r else (g,x)::iE f v r
theorem Ku(f g:Str)(v:V):∀fs:List (Str×V),(iE f v fs).Q g=if g=f then some v else fs.Q g:=by
 intro fs;induction fs with
 |nil=>
  show List.lookup g [(f,v)]=_;by_cases h:g=f
  .let j:(g==f)=true:=zS.mpr h;simp only[List.lookup,j,ah h]
  .let j:(g==f)=false:=yi.mpr h;simp only[List.lookup,j,ag h]
 |cons q r z=>
  let(k,x):=q;let z:=z;rw[show iE f v ((k,x)::r)=(if k=f then (k,v)::r else (k,x)::iE f v r) from rfl];by_cases hk:k=f
  .rw[ah hk];by_cases h:g=k
   .let j:(g==k)=true:=zS.mpr h;simp only[List.lookup,j,ah (h.trans hk)]
   .let j:(g==k)=false:=yi.mpr h;simp only[List.lookup,j,ag (λe:g=f=>h (e.trans hk.symm))]
  .rw[ag hk];by_cases h:g=k
   .let j:(g==k)=true:=zS.mpr h;simp only[List.lookup,j,ag (λe:g=f=>hk (h.symm.trans e))]
   .let j:(g==k)=false:=yi.mpr h;simp only[List.lookup,j];exact z
theorem Cv(f:Str)(v:V):∀fs:List (Str×V),f∈(iE f v fs).M (·.1)/\∀g,g∈fs.M (·.1)->g∈(iE f v fs).M (·.1):=by
 intro fs;induction fs with
 |nil=>exact(by simp[iE],λg h=>by simp at h)
 |cons j r F=>
  let(k,x):=j;let(q,z):=F;rw[show iE f v ((k,x)::r)=(if k=f then (k,v)::r else (k,x)::iE f v r) from rfl];by_cases hk:k=f
  .rw[ah hk];subst hk;exact(by simp,λg h=>by simpa using h)
  .rw[ag hk];apply(?_,λg h=>?_)
   .rw[a7];exact aK _ q
   .rw[a7] at h⊢;rcases a8.mp h with e|e
    .exact a8.mpr (.inl e)
    .exact aK _ (z g e)
theorem Kw(f:Str)(v:V):∀fs:List (Str×V),(iE f v fs).L<=fs.L+1:=by
 intro fs;induction fs with
 |nil=>
  simp[iE]
 |cons j r q=>
  let(k,x):=j;let q:=q;rw[show iE f v ((k,x)::r)=(if k=f then (k,v)::r else (k,x)::iE f v r) from rfl];by_cases hk:k=f
  .rw[ah hk,dg,dg];symm
  .rw[ag hk,dg,dg];symm
theorem k8.some_of(r:k8 Åo o):∃u,o=Α u/\RelV v u:=by
 cases o with
 |none=>exact(show False from r).elim
 |some u=>exact(u,Á,r)
theorem adn(r:RelV v u):PySem.W.handedIn u=true:=by
 cases v with
 |aO=>cases (show u=Value.none from r);rfl
 |bl b=>cases (show u=Value.bool b from r);rfl
 |int i=>let(t,e):=(show ∃t,u=Value.int i t from r);cases e;rfl
 |str x=>let(t,e):=(show ∃t,u=Value.str x t from r);cases e;rfl
 |jJ b=>let(t,e):=(show ∃t,u=Value.bytes b t from r);cases e;rfl
 |Cb b=>let(t,e):=(show ∃t,u=Value.float b t from r);cases e;rfl
 |ref a=>cases (show u=Value.ref a from r);rfl
 |ty n=>cases (show u=Value.type n from r);rfl
section
variable{P:Pg}{w:Wd}{H H':Hp}{h h':Heap}{a C dx:Addr}{fs Al:List (Str×V)}
def SV(aD:ķ h)(e:H a=Α Ϡ):∃mA,Aj h a dx C mA/\(∀f,k8 Át (mA f))/\PySem.Within mA (fs.M (·.1))/\fs.L<=1000/\H dx=Α (.own a):=by
 let(d,z,ne,O,mA,n,r,q):=(show gu P w H h a Ϡ from aD a _ e);exact(mA,⟨O,n,ne⟩,r,q,z,d)
end
structure l7(K:FR)(C:Addr):Prop where
 pg:PySem.W.plainGet K C Str.empty=true
 hd:PySem.W.hasDictIn K C=true
 po:PySem.W.plainOver K C=true
 sa:PySem.W.findIn K Ĉ "__setattr__"=Α (some (.builtin "object.__setattr__"))
def l7.get{K:FR}{C:Addr}(c:l7 K C)(f:Str):PySem.W.plainGet K C f=true:=c.pg
def g7(K:FR)(C:Addr)(f:Str):Prop:=PySem.W.findIn K Ĉ f=Α none
def g7.ado{K:FR}{C:Addr}{f:Str}(n:ϱ f):PySem.W.takerIn K C f=Α none:=by
 ext PySem.W.takerIn;rw[show PySem.W.findIn K Ĉ f=Α none from n];rfl
section
variable{X:Cx}{pins:cb}{σ:St}{H:Hp}{s:Sh}{a C dx:Addr}{fs:List (Str×V)}{f:Str}{v:V}{A:Around}{E:VP}
def adp{b:Bool}{Q:VP}(I:Ã H s)(e:H a=Α Ϡ)(c:l7 X.K C)(n:g7 X.K C f)(l:fs.Q f=Α v)(h:∀u s',Ã H s'->RelV v u->Q u s'):wpAny È A (getAttr ħ f b) Q E s:=by
 let(mA,O,r,_,_,_):=SV I.aD e;let(u,q,j):=k8.some_of (v:=v) (o:=mA f) (by grind);exact get_map I.gD O (c.get f) c.hd n q (adn j) (h u _ (I.tok _) j)
def adq{y:V}{u:Value}{Q:Unit->Shared->Prop}(I:Ã H s)(e:H a=Α Ϡ)(c:l7 X.K C)(n:g7 X.K C f)(Z:fs.L<1000)(U:RelV y u)(h:∀s',Ã (ŭ (.ins C dx (iE f y fs))) s'->Q () s'):wpAny È A (setAttr ħ f u) Q E s:=by
 let(mA,O,r,W,_,F):=SV I.aD e;let hz:(fs.M (·.1)).L<=sizeLine:=by rw[ak,yg];lia
 apply adi I.gD O c.sa c.po n.ado c.hd W hz λh' j Y=>h _ ?_;let hd:∃o,h'.I dx=Α o:=let ⟨o,_,_,e',_⟩:=j.ns;⟨o,e'⟩;apply I.write (x:=a) (e:=dx) (by rw[e];exact True.intro) (.inr F) (λb q J z=>(Y.2 b J).R z) hd ?_;apply(by rw[az O.ne];exact F,?_,O.ne,j.obj,_,j.ns,λg=>?_,λg M=>?_)
 .let:=Kw f y fs;lia
 .show k8 ((iE f y fs).Q g) (if g=f then some u else mA g);rw[Ku];by_cases q:g=f
  .rw[ah q,ah q];exact U
  .symm
 .by_cases q:g=f
  .rw[q];exact(Cv f y fs).1
  .apply(Cv f y fs).2 g (W g λz=>M ?_);symm
def Inv.made(I:Ã H s):Ã (upd (ĕ (.own Û)) Û (.ins C s.Z [])) {s with heap:=(s.o PySem.W.emptyDict).push Ł}:=by
 let j:(s.o PySem.W.emptyDict).I s.Z=Α PySem.W.emptyDict:=ia s.H rfl;let F:((s.o PySem.W.emptyDict).push Ł).I Û=Α Ł:=by
  let:=ia (s.o PySem.W.emptyDict) (o:=PySem.W.instObj C s.Z) rfl;symm
 let J:(s.o PySem.W.emptyDict).Ns s.Z (λ_=>none):=⟨PySem.W.emptyDict,#[],_,j,rfl,(λe M=>absurd M Ä),λ_=>rfl⟩;let z:=I.laid (a:=s.Z) (o:=.own Û) (h':=s.o PySem.W.emptyDict) (t':=s.toks) (λb u q=>du _ q) (bA _) ⟨_,j⟩;apply z.laid (a:=s.Z+1) (o:=.ins C s.Z []) (t':=s.toks) (λb u q=>du _ q) (Fe (qw _ _)) ?_;let ne:s.Z≠s.Z+1:=fU (RA _);refine⟨by rw[az ne,aq],di _,ne,F,λ_=>none,(Heap.Ns1.of_empty J).at λo q=>du _ q,λ_=>True.intro,λy O=>absurd rfl O⟩
def ads(j:attributeBase e f env (eval e env)=eval e env)(h:wpAny Í A (eval e env) (λo q=>wpAny Í A (getAttr o f true) Q E q) E s):wpAny Í A (eval (.Attribute e f pos) env) Q E s:=
 Attribute_any_ h (by rw[arm_eval_Attribute,j])
end
def fj(K:FR)(ta:TE)(f:Str):TE:=λσ H Q=>ta σ H λx H1=>∃a C dx fs v,x=.ref a/\H1 a=Α Ϡ/\l7 K C/\ϱ f/\fs.Q f=Α v/\Q v H1
def FV(K:FR)(ta q:TE)(f:Str):TS:=λD σ H=>q σ H λy H1=>ta σ H1 λx j=>∃a C dx fs,x=.ref a/\j a=Α Ϡ/\l7 K C/\ϱ f/\fs.L<1000/\
 D.nx σ (upd j a (.ins C dx (iE f y fs)))
def aX(M:ϥ ta)(J:attributeBase e f X.env Àm=eval e X.env):PE X (.Attribute e f pos) (fj X.K ta f):=by
 show Ú;apply ads J (aP (M pins s σ H _ I h) λu W ⟨x,H1,j,U,a,C,dx,fs,v,ex,F,c,n,l,q⟩=>?_);subst ex;obtain rfl:u=Value.ref a:=U;exact adp j F c n l λZ Y z O=>⟨v,H1,z,O,q⟩
def fk(M:PE X o ta)(O:PE X jA tv)(hs:swapsWith jA (some (.Attribute o f mz)) pos.line X.env=pure false):PS X (.Assign [.Attribute o f mz] jA pos) (FV X.K ta tv f):=by
 intro pins s σ H D I h;apply aa3 (aP (O pins s σ H _ I h) λu s1 ⟨y,H1,j,Z,q⟩=>aP (M pins s1 σ H1 _ j q) λU s2 ⟨x,H2,z,Y,a,C,dx,fs,ex,J,c,n,l,W⟩=>?_) hs;subst ex;obtain rfl:U=Value.ref a:=Y;exact adq z J c n l Z λs3 F=>⟨σ,_,F,W⟩
def adt:R2:=gE λi j=>.int (i+j)
section
variable{X:Cx}{pins:cb}{σ:St}{H:Hp}{s:Sh}{A:Around}{E:VP}{Q:VP}{c:Value}{b:Bool}
end
structure eS(k:Nat)(A:Around):Prop where
 hd:A.handled=Β
 dp:A.depth+3*k+5<recursionLimit
 un:A.units+16*k+200<cLine
def eS.mono(r:eS k A)(h:j<=k):eS j A:=⟨r.hd,by let:=r.dp;lia,by let:=r.un;lia⟩
def eS.deeper(r:eS (k+1) A)(env:Env):eS k (A.deeper env):=
 ⟨r.hd,by let:=r.dp;show A.depth+1+3*k+5<_;lia,by let:=r.un;show A.units+3+16*k+200<_;lia⟩
def adu{A:Around}{C:Addr}{U:LV}{kw:List (Str×Value)}:(A.under (.builtin "type.__call__" ⟨.ref C::U,kw⟩)).depth=A.depth+1:=by
 rfl
def adv{A:Around}{C:Addr}{U:LV}{kw:List (Str×Value)}:(A.under (.builtin "type.__call__" ⟨.ref C::U,kw⟩)).units=A.units+1:=by
 rfl
def eS.make(r:eS (k+1) A)(C:Addr)(U:LV)(kw:List (Str×Value)):eS k (A.under (.builtin "type.__call__" ⟨.ref C::U,kw⟩)):=
 ⟨r.hd,by let:=r.dp;rw[adu];lia,by let:=r.un;rw[adv];lia⟩
def eS.depth(r:eS k A):A.depth<recursionLimit:=by let:=r.dp;lia
def eS.units(r:eS k A):A.units+64<cLine:=by let:=r.un;lia
def eS.adw(r:eS k A):A.units<cLine:=by let:=r.un;lia
def dq:TA:=λ_ H Q=>Q [] H
def a9(ta:TE)(q:TA):TA:=λσ H Q=>ta σ H λx H1=>q σ H1 λxs j=>Q (x::xs) j
def af:PA X [] dq:=λ_ _ _ _ H Q I h=>RB ⟨[],H,I,.nil,h⟩
def ae(F:ϥ te)(hr:PA X es t)(hs:starEach (e::es) X.env=(false,eval e X.env)::starEach es X.env:=by rfl):PA X (e::es) (a9 te t):=by
 intro pos pins s σ H Q I h;rw[hs];show wpAny _ _ (spliced ((false,eval e X.env)::backTo pos û)) _ _ s;apply Fh (aP (F pins s σ H _ I h) λu W ⟨x,H1,q,O,J⟩=>?_);exact aP (hr pos pins W σ H1 _ q J) λZ Y ⟨xs,j,z,U,M⟩=>⟨x::xs,j,z,.cons O U,M⟩
def vt(t:TA):TE:=λσ H Q=>t σ H λxs H1=>xs.L<=sizeLine/\∀p,H1 p=Β->Q Ĝ (upd H1 p Ào)
def Am(t:TA):TE:=λσ H Q=>t σ H λxs H1=>xs.L<=sizeLine/\∀p,H1 p=Β->Q Ĝ (upd H1 p Àp)
def rX{x1}(h:PA X es t):PE X (.Tuple es x1 pos) (vt t):=by
 intro pins s σ H Q I M;apply wpAny_Tuple_spliced (aP (h pos pins s σ H _ I M) λU j ⟨xs,H1,F,r,z,q⟩=>⟨by rw[<-r.L];exact z,?_⟩);let J:H1 j.Z=Β:=F.aD.fresh (bA _);apply(.ref j.Z,upd H1 j.Z Ào,F.laid (t':=j.toks) (λb u e=>du _ e) (bA _) ?_,Á,q _ J);exact(z,U,r,⟨_,ia _ Á,Á,_,Á⟩)
def dv(h:PA X es t):PE X (.List es pos) (Am t):=by
 intro pins s σ H Q I M;apply wpAny_List_spliced (aP (h pos pins s σ H _ I M) λU j ⟨xs,H1,F,r,z,q⟩=>⟨by rw[<-r.L];exact z,?_⟩);let J:H1 j.Z=Β:=F.aD.fresh (bA _);apply(.ref j.Z,upd H1 j.Z Àp,F.laid (t':=j.toks) (λb u e=>du _ e) (bA _) ?_,Á,q _ J);exact(z,U,0,r,ia _ Á)
abbrev Sp:=ay->Hp->VK->XK->Prop
abbrev ox:=List Env->Hp->Shared->XK->VP
structure yB(P:Pg)(w:Wd)(K:FR)(mg:MG)(base:Heap)(A:Around)(outer:List Env)(s:Sh)(H:Hp):Prop where
 frames:A.frames=Α outer
 mod:Mod K mg base
 bs:∀b o,base.I b=Α o->s.U b=Α o/\H b=Β
 rP:base.O<=s.Z
 pE:s.H.FunFrames base outer
 wK:∀b∈pC outer,H b=Β
 aD:ķ s.H
 bare:AllBare s.gens
def CE(outer:List Env)(P:Pg)(w:Wd)(H:Hp)(s:Sh)(Q:VK)(u:Value)(s':Sh):Prop:=
 ∃v H',s'.os=s.os/\AllBare s'.gens/\Un (pC outer) [] H H' s.H s'.H/\fb P w H' s'.H/\RelV v u/\Q v H'
def CR(CX:ox)(outer:List Env)(P:Pg)(w:Wd)(H:Hp)(s:Sh)(Q:VK)(E:XK)(r:Result)(s':Sh):Prop:=
 match r with
 |.ok (.ret u)=>CE outer P w H s Q u s'
 |.ok _=>False
 |.error e=>CX outer H s E e s'
structure aZ(P:Pg)(w:Wd)(K:FR)(mg:MG)(base:Heap)(CX:ox)(k:Nat)(f:Addr)(fd:FD)(ps:LS)(sp:Sp):Prop where
 len:∀vs H Q E,sp vs H Q E->vs.L=ps.L
 run:∀(A:Around)(outer:List Env)(s:Sh)(H:Hp)(args:Args)(us:LV)(vs:ay)(Q:VK)(E:XK),eS k A->Ág H->BindsTo s fd args Às->bp vs us->sp vs H Q E->
  codeAny Âe A (.call ď args) (CR CX outer P w H s Q E) s
def yB.make{P:Pg}{w:Wd}{K:FR}{mg:MG}{base:Heap}{A:Around}{outer:List Env}{s:Sh}{H:Hp}(e:Ág H)(C:Addr)(U:LV)(kw:List (Str×Value)):
  yB P w K mg base (A.under (.builtin "type.__call__" ⟨.ref C::U,kw⟩)) outer s H:=⟨by first|exact e.frames|(simpa [Around.under,Code.envs,Code.isFrame,pushEnvs] using e.frames),e.mod,e.bs,e.rP,e.pE,e.wK,e.aD,e.bare⟩
section
variable{X:Cx}{pins:cb}{σ:St}{H:Hp}{s s':Sh}
def Inv.Cw(I:Ã H s):yB X.prog X.w X.K X.mg X.base X.A X.stack s H:=
 ⟨I.ok.frames,I.ok.mod,I.bs,gn I.ok.rP I.sz,I.stack,I.Fz,I.aD,I.bare⟩
def Inv.after(I:Ã H s)(h:CE X.stack X.prog X.w H s Q u s'):ô Q u s':=by
 let(v,H',os,bare,un,aD,r,q):=h;let(j,g,d,t,O):=s';obtain rfl:O=s.os:=os;exact(v,H',I.call (h':=j) (g':=g) (d':=d) (t':=t) (ch:=[]) un aD bare ļ,r,q)
end
def g8(sp:Sp)(j:ay)(E:XK)(t:TA):TE:=λσ H Q=>t σ H λvs H1=>sp (vs++j) H1 Q E
def SW(C:Addr)(sp:Sp)(J:ay)(E:XK)(t:TA):TE:=λσ H Q=>t σ H λvs H1=>∀x dx,H1 x=Β->H1 dx=Β->dx≠x->
 sp (.ref x::(vs++J)) (upd (upd H1 dx Åu) x Âx) (λv j=>v=.aO/\Q ŧ j) E
def Binds(K:FR)(fd:FD)(ps:LS)(j:LV):Prop:=
 ∀(s:Sh)(U:LV),K.In s.H->(U++j).L=ps.L->BindsTo s fd ⟨U,[]⟩ (ps.zip (U++j))
def Binds.all{K:FR}{fd:FD}{ps:LS}(h:∀us:LV,us.L=ps.L->bindArgs fd ⟨us,[]⟩=pure Às):Binds K fd ps []:=λs us _ j=>by
 rw[jF] at j⊢;exact .of_eq (h us j)
def vw(CX:ox)(X:Cx)(E:XK):Prop:=∀(pins:cb)(σ:St)(H:Hp)(s:Sh)(e:Value)(s':Sh),Ã H s->CX X.stack H s E e s'->X.xe e s'
def ady(F:ý CX k f fd ps sp)(hr:eS k X.A)(z:ŉ ds)(hd:bp jk ds)(M:vw CX X E)(I:Ã H s) (r:bp vs us) (h:sp (vs++jk) H Q E):wpAny È X.A (call ď us) (ô Q) X.xe s:=by
 let q:bp (vs++jk) (us++ds):=r.append hd;let J:(us++ds).L=ps.L:=by rw[<-q.L];exact F.len _ _ _ _ h
 apply Fc (yf (F.run X.A X.stack s H ⟨us,[]⟩ (us++ds) (vs++jk) Q E hr I.Cw (z s us I.gD J) q h) λr s' j=>?_);cases r with
 |error e=>exact M pins σ H s e s' I j
 |ok fl=>
  cases fl with
  |ret u=>exact I.after j
  |next=>exact False.elim j
  |brk=>exact False.elim j
  |cont=>exact False.elim j
def nH(F:ý CX k f fd ps sp)(hr:eS k X.A)(O:Gl X x)(U:X.mg x=Α ď)(hk:PySem.W.keepIn X.K ď=true)(J:ŉ ds)(hd:bp jk ds)(Y:vw CX X E)(z:PA X (e::es) t) (Z:(x==("__debug__":Str))=false:=by decide) (M:starEach (e::es) X.env=(false,eval e X.env)::starEach es X.env:=by rfl) (j:(backTo pos û).any (·.1)=false:=by rfl):
  PE X (.Call Ϗ (e::es) [] pos) (g8 sp jk E t):=by
 show Ú;apply zT (yr I O U ?_ Z);refine PySem.W.callWith_K (h₀:=X.base) I.ok.mod.wJ hk (aP (z pos pins s σ H _ I h) λus s1 ⟨vs,H1,I1,r,q⟩=>Äj) M j;exact ady F hr J hd Y I1 r q
structure Mk(K:FR)(C f:Addr):Prop where
 makes:PySem.W.makesIn K C=true
 init:PySem.W.findIn K Ĉ "__init__"=Α Âr
 fn:PySem.W.isFn K ď=true
 kp:PySem.W.keepIn K Ĉ=true
def adz{pins:cb}{σ:St}{H:Hp}{s:Sh}{Q:VK}{U:LV}{vs:ay}(M:Mk X.K C f)(F:ý CX k f fd ps sp)(hr:eS (k+1) X.A)(Z:ŉ ds)(hd:bp jk ds)(hx:vw CX X E) (I:Ã H s) (r:bp vs U)(h:∀x dx,H x=Β->H dx=Β->dx≠x->sp (.ref x::(vs++jk)) (upd (upd H dx Åu) x Âx) (λv O=>v=.aO/\Q ŧ O) E):
  wpAny È X.A (call Ĉ U) (ô Q) X.xe s:=by
 let z:=h Û s.Z (I.aD.fresh (Fi _)) ġ (fU (RA _));let q:=Inv.made (C:=C) I;let J:bp (V.ref Û::(vs++jk)) (Value.ref Û::(U++ds)):=.cons rfl (r.append hd);let hl:(Value.ref Û::U++ds).L=ps.L:=by
  let e:=J.L;rw[F.len _ _ _ _ z] at e;symm
 refine Fc (adm (f:=f) I.gD M.makes M.init (zS.mp M.fn) (yf (F.run _ X.stack _ _ ⟨Value.ref Û::U,[]⟩ (Value.ref Û::(U++ds)) _ _ E (hr.make C U [])
  (q.Cw.make C U []) (Z _ (Value.ref Û::U) q.gD hl) J z) λr s' j=>?_))
 cases r with
 |error e=>exact hx pins σ _ _ e s' q j
 |ok fl=>
  cases fl with
  |ret u=>
   let(v,H',W,rv,Y,q3):=q.after j;subst Y;exact(rv,⟨V.ref Û,H',W,Á,q3⟩)
  |next=>exact False.elim j
  |brk=>exact False.elim j
  |cont=>exact False.elim j
def adA(M:Mk X.K C f)(F:ý CX k f fd ps sp)(hr:eS (k+1) X.A)(U:Gl X x)(Y:X.mg x=Α Ĉ)(J:ŉ ds)(hd:bp jk ds)(Z:vw CX X E)(z:PA X (e::es) t) (j8:(x==("__debug__":Str))=false:=by decide) (O:starEach (e::es) X.env=(false,eval e X.env)::starEach es X.env:=by rfl) (j:(backTo pos û).any (·.1)=false:=by rfl):
  PE X (.Call Ϗ (e::es) [] pos) (SW C sp jk E t):=by
 show Ú;apply zT (yr I U Y ?_ j8);refine PySem.W.callWith_K (h₀:=X.base) I.ok.mod.wJ M.kp (aP (z pos pins s σ H _ I h) λus s1 ⟨vs,H1,I1,r,q⟩=>Äj) O j;exact adz M F hr J hd Z I1 r q
structure bC(N P:LS)(sc:Scope):Prop where
 kind:sc.kind=.function
 co:sc.isCoroutine=false
 gen:sc.isGenerator=false
 nd:N.Nodup
 pre:N.take P.L=P
 par:∀x∈P,sc.names.Q x=Α .local\/sc.names.Q x=Α .cell
 adB:∀y∈sc.names,y.2≠ .free
theorem adC{kindOf:Str->Option NameKind}{x:Str}{binds:List (Str×Value)}:∀{m:MG},(∀v,(x,v)∉binds)->bindL kindOf binds m x=m x:=by
 induction binds with
 |nil=>exact @λ_ _=>Á
 |cons j r z=>
  let(n,v):=j;intro m h;ext bindL;rw[z λw q=>h w (aK _ q)];split
  .let:x≠n:=by rintro rfl;exact h v eO
   simp[this]
  .rfl
theorem adD{kindOf:Str->Option NameKind}{x:Str}{binds:List (Str×Value)}:∀{m:MG},(∀v,(x,v)∉binds)->bindC kindOf binds m x=m x:=by
 induction binds with
 |nil=>exact @λ_ _=>Á
 |cons j r z=>
  let(n,v):=j;intro m h;ext bindC;rw[z λw q=>h w (aK _ q)];split
  .rfl
  .let:x≠n:=by rintro rfl;exact h v eO
   simp[this]
def adE{kindOf:Str->Option NameKind}{x:Str}{v:Value}{P:LS}:∀{vs:LV}{i:Nat}{m:MG},P.Nodup->P[i]? =Α x->vs[i]? =Α v->kindOf x=Α .local->
  bindL kindOf (P.zip vs) m x=Α v:=by
 induction P with
 |nil=>intro _ _ _ _ h;simp at h
 |cons p P z=>
  intro vs i m nd j h2 hk;cases vs with
  |nil=>simp at h2
  |cons w vs=>
   show bindL kindOf ((p,w)::P.zip vs) m x=_;ext bindL;cases i with
   |zero=>
    simp at j h2;subst j;subst h2;rw[adC λv q=>(kY.mp nd).1 (JA q).1,ah hk];simp
   |succ i=>exact z (kY.mp nd).2 j h2 hk
def adF{kindOf:Str->Option NameKind}{x:Str}{v:Value}{P:LS}:∀{vs:LV}{i:Nat}{m:MG},P.Nodup->P[i]? =Α x->vs[i]? =Α v->kindOf x≠some .local->
  bindC kindOf (P.zip vs) m x=Α v:=by
 induction P with
 |nil=>intro _ _ _ _ h;simp at h
 |cons p P z=>
  intro vs i m nd j h2 hk;cases vs with
  |nil=>simp at h2
  |cons w vs=>
   show bindC kindOf ((p,w)::P.zip vs) m x=_;ext bindC;cases i with
   |zero=>
    simp at j h2;subst j;subst h2;rw[adD λv q=>(kY.mp nd).1 (JA q).1,ag hk];simp
   |succ i=>exact z (kY.mp nd).2 j h2 hk
def start(N:LS)(vs:ay):St:=vs.M some++List.replicate (N.L-vs.L) none
def oy(CX:ox)(P:Pg)(w:Wd)(K:FR)(mg:MG)(base:Heap)(N:LS)(d8:Str)(scope:Scope)(f:Addr)(cd:Value)(A:Around)(outer:List Env)(s:Sh)(H:Hp)(E:XK):Cx where
 prog:=P
 w:=w
 K:=K
 mg:=mg
 base:=base
 A:=A.deeper Ž
 N:=N
 jK:=s
 yo:=H
 env:=envOfC d8 scope s.Z f cd
 outer:=outer
 stack:=envOfC d8 scope s.Z f cd::outer
 ex:=[]
 calm:=true
 fn:=λ_=>true
 pn:=[]
 xe:=λe s'=>wpAny Âe (A.deeper Ž) (leaving Ž e) (λ_ j=>CX outer H s E e j) (λq j=>CX outer H s E q j) s'
def SX{j:Scope}{n:Nat}{x:Str}(h:j.names.Q x=Α .cell):∃c,(cellsFrom n j.names []).Q x=Α c:=by
 let q:=PySem.W.cellsFrom_some j.names n [] (.inl h);exact JB.mp q
def adG{CX:ox}{P:Pg}{w:Wd}{K:FR}{mg:MG}{base:Heap}{N ps:LS}{d8:Str}{j:Scope}{f:Addr}{O:Value}{A:Around}{outer:List Env}{s s1:Sh}{H:Hp}{E:XK}{us:LV}{vs:ay}(S:bC N ps j) (hd:A.handled=Β) (F:Ág H) (hl:vs.L=ps.L) (r:bp vs us)(x:InCallC s s.Z (bindL (envOfC d8 j s.Z f O).kindOf Às λ_=>none) (cellsFrom Û j.names []) (bindC (envOfC d8 j s.Z f O).kindOf Às λ_=>none) s1):
  Inv (Ķ j f O A outer s H E) [] Âq H s1:=by
 let dY:ps.L<=N.L:=by let:=b9 List.length S.pre;rw[iR] at this;lia
 let(U,tk,rfl,hk):=x.done;let W:∀b:Addr,b∉(Ķ j f O A outer s H E).ex:=λb z=>absurd (show b∈([]:LA) from z) Ä;apply⟨⟨F.mod,S.kind,Á,Á,bA _,λy z c U h2=>?_,λy J=>?_,λy c _ h=>?_,λ_=>hd,Around.frames_deeper F.frames,.inr ⟨Á,Á⟩,λb z=>absurd z (W b),F.bs,F.rP,λb _ _=>W b,λb z=>absurd z (W b),F.pE,F.wK⟩,
  rfl,F.bare,Un.kept hk,⟨_,x.toInCall.ns,λi y v U h2 h3=>?_⟩,λy c h=>⟨_,x.cell y c h⟩,F.aD.fresh (bA _),λy c h=>?_,λp M=>absurd (show p∈([]:cb) from M) Ä,F.aD.kept hk,?_⟩
 .exact name_of_addr x.apart (PySem.mem_of_lookup U) (PySem.mem_of_lookup h2)
 .let J:j.names.Q y=Α .cell\/j.names.Q y=Α .free:=J;rcases J with J|J
  .exact SX J
  .exact absurd Á (S.adB _ (PySem.mem_of_lookup J))
 .exact tm (x.above y c (PySem.mem_of_lookup h))
 .let hi:i<vs.L:=by
   delta start at h2;by_cases hi:i<vs.L
   .exact hi
   .rw[RC (À hi)] at h2;rw[List.getElem?_replicate] at h2;split at h2 <;> cases h2
  let ha:vs[i]? =Α v:=by
   delta start at h2;rw[Fj (À hi),bz] at h2;cases e:vs[i]? with
   |none=>rw[e] at h2;cases h2
   |some a=>rw[e] at h2;cases h2;rfl
  let(u,Z,rv):=r.get ha;let M:ps[i]? =Α y:=by
   rw[<-S.pre,aa4 Å];exact U
  let Y:ps.Nodup:=by rw[<-S.pre];exact S.nd.sublist (List.take_sublist _ _)
  apply(u,rv,?_);rcases S.par y (bj M) with k|k
  .exact .inl ⟨k,adE Y M Z k⟩
  .let(c,e):=SX (n:=s.Z+1) k;apply .inr ⟨.inl k,c,e,?_⟩;let q:=x.cell y c e;rw[adF Y M Z (by show j.names.Q y≠_;rw[k];decide)] at q;exact q
 .exact F.aD.fresh (tm (x.above y c (PySem.mem_of_lookup h)))
 .ext start;show _=N.L;rw[j4,ak,List.length_replicate];symm
def SZ{CX:ox}{P:Pg}{w:Wd}{K:FR}{mg:MG}{base:Heap}{k:Nat}{f:Addr}{name d8:Str}{j:Arguments}{O:List Stmt}{scope:Scope}{dV kV jB pm aJ ct oc:Value}{Z od:OA}{pB:AO} {N ps:LS} {sp:Sp} (lk:K.Q f=Α ⟨oc,od,.func (PySem.W.fnOf name d8 j O scope dV kV jB pm Z aJ ct),pB⟩) (ny:PySem.W.codeIn K aJ d8=true) (S:bC N ps scope)(len:∀vs H Q E,sp vs H Q E->vs.L=ps.L)(CC:∀(A:Around)(outer:List Env)(s:Sh)(H:Hp)(vs:ay)(Q:VK)(E:XK),eS k (A.deeper (envOfC d8 scope s.Z f aJ))->sp vs H Q E->
   ∃t,l6 Ài O t/\t {nx:=λ_ H'=>Q .aO H',rt:=Q} Âq H):
  aZ P w K mg base CX (k+1) f (PySem.W.fnOf name d8 j O scope dV kV jB pm Z aJ ct) ps sp:=by
 apply(len,λA outer s H args us vs Q E hr z hb r mY=>?_);let hl:=len _ _ _ _ mY;let Y:K.In s.H:=z.mod.wJ.keeps λb o e=>(z.bs b o e).1;let M:s.H.NoLimit:=z.mod.nolimit.keeps λb o e=>(z.bs b o e).1;let F:∀y∈ps.zip us,scope.names.Q y.1=Α .local\/(scope.names.Q y.1=Α .cell/\((cellsFrom Û scope.names []).Q y.1).isSome=true):=λ⟨n,v⟩ hy=>by
  rcases S.par n (JA hy).1 with q|q
  .symm
  .exact .inr ⟨q,PySem.W.cellsFrom_some _ _ _ (.inl q)⟩
 apply codeAny_call_function hr.depth (Y _ _ lk) Á S.co S.gen Á (PySem.W.codeRec_of Y ny) (hb _ _ _ _ ?_);apply wpAny_newFunctionEnv_cells S.kind F λenv he s1 x=>?_;subst he;apply(M.keeps x.toInCall.keep,codeAny_func ?_);let(t,ht,hq):=CC A outer s H vs Q E (hr.deeper _) mY;let I:Inv Ài [] Âq H s1:=adG S hr.hd z hl r x;apply jD (ht [] s1 Âq H _ I hq) (λfl s' hs=>?_) λe s' hs=>hs;let fin:∀{σ':St}{H':Hp}{v:V}{u:Value},Inv Ài [] σ' H' s'->RelV v u->Q v H'->CE outer P w H s Q u s':=
  λ{σ' H' v u}J U q=>⟨v,H',J.os,J.bare,J.base,J.aD,U,q⟩
 cases fl with
 |ret u=>
  let(v,σ',H',J,U,q):=hs;exact fin J U q
 |next=>
  let(σ',H',J,q):=hs;exact fin (v:=V.aO) (u:=Value.none) J Á q
 |brk=>
  let(_,_,_,q):=hs;symm
 |cont=>
  let(_,_,_,q):=hs;symm
section
variable{X:Cx}{x:Str}{p pos:Pos}{e:Expr}{es:List Expr}{t:TA}{id T:String}{r:ay->Hp->VK->Prop}
def rY(r:ay->Hp->VK->Prop)(t:TA):TE:=λσ H Q=>t σ H λvs H1=>r vs H1 Q
def c8(hc:k9 X ϖ r)(hg:Gl X x)(hm:X.mg x=Β)(M:bootBuiltins x=Α ϖ)(z:PA X (e::es) t)(J:x≠"__name__":=by decide)(O:(x==("__debug__":Str))=false:=by decide)(F:starEach (e::es) X.env=(false,eval e X.env)::starEach es X.env:=by rfl) (q:(backTo pos û).any (·.1)=false:=by rfl):PE X (.Call Ϗ (e::es) [] pos) (rY r t):=by
 show Ú;apply zT (Àq M ?_ J O);exact atz (aP (z pos pins s σ H _ I h) λZ Y ⟨vs,H1,j,W,U⟩=>hc pins Y σ H1 vs Z Q j W U) F q
def vx(hc:k9 X (.type T) r)(hg:Gl X x)(hm:X.mg x=Β)(M:bootBuiltins x=Α (.type T))(z:PA X (e::es) t)(J:x≠"__name__":=by decide)(O:(x==("__debug__":Str))=false:=by decide)(F:starEach (e::es) X.env=(false,eval e X.env)::starEach es X.env:=by rfl) (q:(backTo pos û).any (·.1)=false:=by rfl):PE X (.Call Ϗ (e::es) [] pos) (rY r t):=by
 show Ú;apply zT (Àq M ?_ J O);exact Fg (aP (z pos pins s σ H _ I h) λZ Y ⟨vs,H1,j,W,U⟩=>hc pins Y σ H1 vs Z Q j W U) F q
end
end L2
namespace HT
open PySem PyProof.Rows
def lexLt:LI->LI->Bool
 |[],[]=>false
 |[],_::_=>true
 |_::_,[]=>false
 |x::xs,y::ys=>if x=y then lexLt xs ys else decide (x<y)
def vy(x y:Int)(xs ys:LI):lexLt (x::xs) (y::ys)=if x=y then lexLt xs ys else decide (x<y):=rfl
def S2:lexLt [] []=false:=rfl
def S3(y:Int)(ys:LI):lexLt [] (y::ys)=true:=rfl
def S4(x:Int)(xs:LI):lexLt (x::xs) []=false:=rfl
def S5(A:Around)(s:Sh)(a:Int)(t:Tok)(c:Int)(u:Tok):∃e,SeqAt.EqAt A s (.int a t) (.int c u) e/\(e=true↔a=c):=
 ⟨(a==c),SeqAt.EqAt.int_int a t c u,by simp⟩
def Kx(A:Around)(s:Sh)(a:Int)(t:Tok)(c:Int)(u:Tok)(prog:Pg)(w:Wd)(E:VP)(Q:VP)(h:Q (.bool (decide (a<c))) s):
  wpAny Í A (richCompare .Lt (.int a t) (.int c u)) Q E s:=
 (PyProof.Rows.lt_int h:wpAny Í A (compareOp .Lt (.int a t) (.int c u)) Q E s)
section
open PySem.SeqAt
open PySem.AutoSeq1 (wpAny_loadPart')
open PySem.MeetsSeq PySem.MeetsSeq2 PySem.MeetsSeq3
def adI(l b:Addr)(items z:Array Value)(n n2:Nat)(dd nI:OA)(sl oA:AO)(ns ms:LI)(hi:IntsAre items.toList ns)(hj:IntsAre z.toList ms):
  Meets (Builtin.«tuple.__lt__» ⟨[.ref l,.ref b],[]⟩)
   (λ_ R s=>s.U l=Α {cls:=.type "tuple",dict:=dd,data:=.seq items n,slots:=sl}/\s.U b=Α {cls:=.type "tuple",dict:=nI,data:=.seq z n2,slots:=oA}/\
    R (.ok (.ret ώ)) s):=
 .of_wp λprog w A R s h=>by
  let(W,g,d,tk,os):=s;let(hl,hb,h):=h;let f2:=atB;let z1:items.u=ns.L:=by rw[<-hi.L];simp
  let z2:z.u=ms.L:=by rw[<-hj.L];simp
  wp_walk using jE hl,jE hb,wpAny_forIn_list _ (λb7 b s'=>b.1=Β/\s'=⟨W,g,d,tk,os⟩/\∃(vs Z:LV)(J F:LI),b7=vs.zip Z/\
   IntsAre vs J/\IntsAre Z F/\J.L+z.u=F.L+items.u/\R (.ok (.ret (.bool (lexLt J F)))) ⟨W,g,d,tk,os⟩) _
  case turn=>
   rintro⟨y,x⟩ b7 b s' ⟨qE,rfl,vs,Z,J,F,hz,An,Y,M,j⟩;cases An with
   |nil=>rw[List.zip_nil_left] at hz;cases hz
   |cons a t O=>
    cases Y with
    |nil=>rw[List.zip_nil_right] at hz;cases hz
    |cons c u U=>
     rw[zU] at hz;injection hz with hyx hrest;injection hyx with hy hx;subst hy hx;rw[vy] at j;simp only[dg] at M;let(e,he,CD):=S5 A.in1 ⟨W,g,d,tk,os⟩ a t c u;apply aF (he prog w _ _ ?_);cases e with
     |true=>
      rw[ah (CD.mp rfl)] at j
      wp_walk
      exact(Á,Á,_,_,_,_,hrest,O,U,by lia,j)
     |false=>
      rw[ag (λq=>absurd (CD.mpr q) eN)] at j;let rZ:=Kx A.in1 ⟨W,g,d,tk,os⟩ a t c u prog w
      wp_walk using rZ
      exact(_,Á,À j)
  case fin=>
   rintro⟨b1,b2⟩ s' ⟨qE,rfl,vs,Z,J,F,hz,An,Y,M,j⟩;simp only at qE;subst qE;let hv:lexLt J F=decide (items.u<z.u):=by
    cases An with
    |nil=>
     cases Y with
     |nil=>
      simp only[tj] at M;rw[S2];exact(gC (by omega)).symm
     |cons c u hw=>
      simp only[tj,dg] at M;rw[S3];exact(eP (by omega)).symm
    |cons a t hv=>
     cases Y with
     |nil=>
      simp only[tj,dg] at M;rw[S4];exact(gC (by omega)).symm
     |cons c u hw=>
      rw[zU] at hz;cases hz
   rw[hv] at j
   wp_walk
   exact(_,Á,by simpa [Builtin.Tuple.tupleCompareSizes] using j)
  case h=>
   exact(Á,Á,items.toList,z.toList,ns,ms,Á,hi,hj,by omega,h)
end
def S6(U:IsTup s.H l items)(M:IsTup s.H b iH)(hi:IntsAre items.toList ns)(O:IntsAre iH.toList ms)(W:A.units<cLine) (h:Q ώ s):wpAny Í A (compareOp .Lt Âa (.ref b)) Q E s:=by
 let((cls,dd,data,sl),q,hc,n,hd):=id U;let((S7,Z,data2,oA),J,z,Y,j):=id M;simp only at hc hd z j;subst hc hd z j;exact RD (op:=.Lt) ⟨_,q,Á⟩ ⟨_,J,Á⟩ PySem.F.slot_tuple_lt PySem.F.entry_tuple_lt (PySem.F.args_tuple_lt_2 _ _) (adI l b items iH n Y dd Z sl oA ns ms hi O)
  ⟨q,J,show Value.bool (lexLt ns ms)≠Value.notImplemented/\Q ώ s from⟨(λx=>nomatch x),h⟩⟩ W
def nM(n d:Nat):Option Int->Nat
 |none=>d
 |some v=>if v<0 then (v+(n:Int)).toNat else min v.toNat n
def S8(n d:Nat):nM n d none=d:=rfl
def S9(n d k:Nat):nM n d (some (k:Int))=min k n:=by
 rfl
end HT
namespace L2
open PySem PySem.Spec PyProof.Rows
abbrev TO:=St->Hp->(Option Int->Hp->Prop)->Prop
def PO(X:Cx)(e:Option Expr)(t:TO):Prop:=
 ∀(pins:cb)(s:Sh)(σ:St)(H:Hp)(Q:Option Int->Hp->Prop),Ã H s->t σ H Q->
  wpAny È X.A (evalPart e X.env) (λu s'=>∃o H',Ã H' s'/\IsPart u o/\Q o H') X.xe s
def Ta:TO:=λ_ H Q=>Q none H
def Tb(t:TE):TO:=λσ H Q=>t σ H λx H1=>∃i,x=.int i/\Q (some i) H1
theorem intsAre_of{ns:LI}:∀{U:LV},bp Ŭ U->IntsAre U ns:=by
 induction ns with
 |nil=>intro U r;rw[mJ] at r;cases r;exact .nil
 |cons n ns j=>
  intro U r;rw[a7] at r;cases r with
  |cons q z=>
   let(t,e):=q;subst e;exact .cons n t (j z)
section
variable{X:Cx}{e:Expr}{te:TE}{lo hi:Option Expr}{tl th:TO}{pos p2:Pos}
def wU:PO X none Ta:=by
 show Ú;rw[evalPart_none];exact cV ⟨none,H,I,.none,h⟩
def wV(h:ϥ te):PO X (some e) (Tb te):=by
 intro pins s σ H Q I z;rw[evalPart_some];apply aP (h pins s σ H _ I z) λu M ⟨x,H1,j,J,F⟩=>?_;let(i,rfl,q):=F;let(t,rfl):=J;exact(some i,H1,j,.int i t,q)
def Tc(X:Cx)(r:V->Option Int->Option Int->Hp->VK->Prop):Prop:=
 ∀(pins:cb)(s:Sh)(σ:St)(H:Hp)(x:V)(v j q:Value)(lo hi:Option Int)(sl:Addr)(Q:VK),Ã H s->RelV x v->s.H.IsSliceOf sl j q .none->IsPart j lo->IsPart q hi->r x lo hi H Q->
  ∃T id,typeLookup (.type T) "__getitem__"=pure (some ϖ)/\s.TypeIs v T/\wpAny È X.A (getItem v (.ref sl)) (ô Q) X.xe s
def Td(r:V->Option Int->Option Int->Hp->VK->Prop)(te:TE)(tl th:TO):TE:=λσ H Q=>te σ H λx H1=>tl σ H1 λl j=>th σ j λu q=>r x l u q Q
def wW(hr:Tc X r)(he:ϥ te)(hl:PO X lo tl)(hu:PO X hi th):PE X (.Subscript e (.Slice lo hi none p2) pos) (Td r te tl th):=by
 show Ú;apply Subscript_ (aP (he pins s σ H _ I h) λv s1 ⟨x,H1,O,r1,q1⟩=>?_);apply wpAny_Slice (aP (hl pins s1 σ H1 _ O q1) λz s2 ⟨l,M,U,pl,q2⟩=>aP (hu pins s2 σ M _ U q2) λF j ⟨u,J,W,pu,q3⟩=>?_);rw[evalPart_none];apply cV ?_;let Y:Ã J {j with heap:=j.o {cls:=.type "slice",data:=.fields #[z,F,.none]}}:=W.kept (t':=j.toks) λb ob q=>du _ q;let(T,id,Z,ht,hg):=hr pins {j with heap:=j.o {cls:=.type "slice",data:=.fields #[z,F,.none]}} σ J x v z F l u j.Z Q Y r1 (Heap.IsSliceOf.new ..) pl pu q3;show wpAny È X.A (subscriptTail e (.Slice lo hi none p2) v (.ref j.Z)) (ô Q) X.xe {j with heap:=j.o {cls:=.type "slice",data:=.fields #[z,F,.none]}};exact tail_any (ops:=[.ref j.Z,v]) ht Z hg Ð
def pN(xs:ay)(lo hi:Option Int):ay:=(xs.drop (HT.nM xs.L 0 lo)).take (HT.nM xs.L xs.L hi-HT.nM xs.L 0 lo)
def adJ(xs:ay)(lo hi:Option Int):(pN xs lo hi).L<=xs.L:=by
 ext pN;rw[iR,aa6];lia
inductive Te(K:FR)(x:V)(y:V)(H:Hp)(Q:VK):Prop
 |mk (a b ns ms:_) (_:x=.ref a) (_:y=.ref b) (_:š a Ŭ) (_:š b (ms.M V.int)) (_:Q (.bl Ϣ) H)
def adK(J:X.A.units<cLine):fh X Èh (Te X.K):=by
 show ð;let(a,b,ns,ms,rfl,rfl,z,F,q):=h;cases rx;cases ry;let(j,Y,W,_):=I.tuple z;let(U,Z,p2,_):=I.tuple F;let M:IntsAre j.toArray.toList ns:=intsAre_of Y;let O:IntsAre U.toArray.toList ms:=intsAre_of Z;exact HT.S6 W p2 M O J ⟨.bl Ϣ,H,I,Á,q⟩
end
def tK(n:Nat)(i:Int):Option Nat:=if 0<=i then (if i<n then some i.toNat else none) else if-(n:Int)<=i then some (i+n).toNat else none
def qF{α:Type}(xs:List α)(i:Int):Option α:=(tK xs.L i).bind λj=>xs[j]?
def adL(h:tK n i=Α j):seqIndex? i n=Α j/\j<n/\ -(n:Int)<=i/\i<n:=by
 delta tK at h;by_cases z:0<=i
 .rw[ah z] at h;by_cases q:i<n
  .rw[ah q] at h;let e:i.toNat=j:=aQ h;exact(by rw[seqIndex_of z q,e],by lia,by lia,q)
  .symm
 .rw[ag z] at h;by_cases q: -(n:Int)<=i
  .rw[ah q] at h;let e:(i+n).toNat=j:=aQ h;exact(by rw[seqIndex_neg Å q,e],by lia,q,by lia)
  .symm
theorem Tf(h:qF xs i=Α v):∃j,seqIndex? i xs.L=Α j/\xs[j]? =Α v/\j<xs.L/\ -(xs.L:Int)<=i/\i<xs.L:=by
 delta qF at h;cases e:tK xs.L i with
 |none=>symm
 |some j=>
  rw[e] at h;let(q,h2,z,F):=adL e;symm
def fZ{α:Type}{xs:List α}{j:Nat}{v:α}(h:xs[j]? =Α v):qF xs (j:Int)=Α v:=by
 let q:j<xs.L:=(bo.mp h).1;let e:tK xs.L (j:Int)=Α j:=by
  ext tK;symm
 ext qF;rw[e];exact h
def wX(xs:List α)(v:α):qF (xs++[v]) (-1)=Α v:=by
 let j:(xs++[v]).L=xs.L+1:=by simp
 let e:tK (xs++[v]).L (-1)=Α xs.L:=by
  ext tK;grind
 ext qF;symm
def adM(b:Expr):Prop:=∀o i,subscripted b false o i=operate [o,i] (getItem o i)
def Ky(X:Cx)(r:R2):Prop:=
 ∀(j W:Expr)(pins:cb)(s:Sh)(σ:St)(H:Hp)(x y:V)(v u:Value)(Q:VK),Ã H s->RelV x v->RelV y u->r x y H Q->
  subscripted W false v u=operate [v,u] (getItem v u)->wpAny È X.A (subscriptTail j W v u) (ô Q) X.xe s
def Kz(X:Cx)(id:String)(r:V->ay->Hp->VK->Prop):Prop:=
 ∀(pins:cb)(s:Sh)(σ:St)(H:Hp)(x:V)(xs:ay)(v:Value)(U:LV)(Q:VK),Ã H s->RelV x v->bp xs U->r x xs H Q->
  wpAny È X.A (call ϖ (v::U)) (ô Q) X.xe s
section
variable{X:Cx}{a b:Expr}{ta tb:TE}{pos:Pos}
def cJ(hr:Ky X r)(F:ϲ ta)(J:PE X b tb)(hs:adM b):PE X (.Subscript a b pos) Çq:=by
 show Ú;exact Subscript_ (Ki F J I h λv u U x y j z M O q=>hr a b pins U σ j x y v u Q z M O q (hs _ _))
inductive ib(K:FR)(x:V)(y:V)(H:Hp)(Q:VK):Prop
 |mk (p xs i v:_) (_:x=.ref p) (_:y=.int i) (_:ä p xs) (_:qF xs i=Α v) (_:Q v H)
inductive adN(K:FR)(x:V)(y:V)(H:Hp)(Q:VK):Prop
 |mk (p xs i v:_) (_:x=.ref p) (_:y=.int i) (_:š p xs) (_:qF xs i=Α v) (_:Q v H)
def c9:Ky X (ib X.K):=by
 intro jA wy pins s σ H x y v u Q I rx ry h hs;let(p,xs,i,z,rfl,rfl,hq,Z,q):=h;cases rx;let(t,rfl):=ry;let(O,r,pl,hz):=I.list hq;let(j,J,h2,h3,W,Y):=Tf Z;let(w,U,jl):=r.get h2;let hl:=r.L;let hn:=FU;let fin:ô Q w s:=⟨z,H,I,jl,q⟩;by_cases F:0<=i
 .let M:i.toNat=j:=by
   rw[seqIndex_of F Y] at J;symm
  exact item_listR pl.isList F Î Å fin hs
 .let M:(i+(O.toArray.u:Int)).toNat=j:=by
   rw[seqIndex_neg Å W] at J;symm
  exact subscriptTail_builtinR (x:=w) pl.isList.typeIs slot_list_getitem.Q
   (wpAny_getItem_list_neg (Q:=λr s'=>r=w/\ô Q r s') pl.isList (by omega) (by rw[u9] <;> simp_all) Î (by rw[M];simpa using U) ⟨rfl,fin⟩) hs
def Ao:Ky X (adN X.K):=by
 intro jA wy pins s σ H x y v u Q I Y Z h hs;let(p,xs,i,z,rfl,rfl,U,M,q):=h;cases Y;let(t,rfl):=Z;let(aj,r,pl,hz):=I.tuple U;let(j,J,h2,h3,h4,h5):=Tf M;let(w,F,W):=r.get h2;let O:=r.L;let hn:=FU;let fin:ô Q w s:=⟨z,H,I,W,q⟩;exact subscriptTail_builtinR (x:=w) pl.typeIs slot_tuple_getitem.Q
  (getItem_tuple (j:=j) (Q:=λr s'=>r=w/\ô Q r s') pl Î Î (by rw[u9,<-O];exact J) (À F) ⟨rfl,fin⟩) hs
def adO(lo hi:Option Int)(n:Nat):(sliceBounds lo hi none n).1=((HT.nM n 0 lo:Nat):Int)/\(sliceBounds lo hi none n).2.1=((HT.nM n n hi:Nat):Int)/\(sliceBounds lo hi none n).2.2=1:=by
 apply(?_,?_,Á)
 .cases lo with
  |none=>rfl
  |some i=>
   simp only[sliceBounds,HT.nM,Option.getD_none,show(1:Int)>0 by decide,Fk];grind
 .cases hi with
  |none=>rfl
  |some i=>
   simp only[sliceBounds,HT.nM,Option.getD_none,show(1:Int)>0 by decide,Fk];grind
def adP(j:LV)(lo hi:Option Int):slicePick j.toArray lo hi none=((j.drop (HT.nM j.L 0 lo)).take (HT.nM j.L j.L hi-HT.nM j.L 0 lo)).toArray:=by
 let(q,h2,z):=adO lo hi j.toArray.u;ext slicePick;rw[q,h2,z];simp only[sliceRange_one,pick_run,u9] <;> rfl
inductive Tg(K:FR)(x:V)(lo:Option Int)(hi:Option Int)(H:Hp)(Q:VK):Prop
 |mk (a xs:_) (_:x=.ref a) (_:ä a xs) (_:∀p,H p=Β->Q Ĝ (upd H p (.lst (pN xs lo hi))))
def wY:Tc X (Tg X.K):=by
 intro pins s σ H x v W Y lo hi sl Q I M hs pl J h;let(a,xs,rfl,F,q):=h;cases M;let(O,r,j,hz):=I.list F;let z:=r.L;apply⟨"list",_,slot_list_getitem.Q,j.isList.typeIs,?_⟩;apply wpAny_getItem_list_slice j.isList hs pl J .none Ä ?_ Å;rw[adP,<-z];apply(.ref s.Z,_,I.laid (t':=s.toks) (o:=.lst (pN xs lo hi)) (λb U q=>du _ q) (bA _) ?_,Á,q _ ġ);exact(gn (adJ xs lo hi) hz,_,0,(r.drop (HT.nM xs.L 0 lo)).take (HT.nM xs.L xs.L hi-HT.nM xs.L 0 lo),ia _ Á)
def mZ:V->Bool
 |.aO=>true
 |.bl _=>true
 |.int _=>true
 |.str _=>true
 |_=>false
def qG:V->V->Bool
 |.aO,.aO=>true
 |.bl a,.bl b=>a==b
 |.bl a,.int b=>(if a then 1 else 0)==b
 |.int a,.bl b=>a==(if b then 1 else 0)
 |.int a,.int b=>a==b
 |.str a,.str b=>a==b
 |_,_=>false
theorem adQ(q:RelV y u)(j:RelV x v)(z:mZ y=true)(F:mZ x=true):SeqAt.EqAt A s u v (qG y x):=by
 cases y with
 |aO=>
  cases q;cases x with
  |aO=>cases j;exact SeqAt.EqAt.same _
  |bl b=>cases j;exact SeqAt.EqAt.none_bool b
  |int b=>let(t,rfl):=j;exact SeqAt.EqAt.none_int b t
  |str b=>let(t,rfl):=j;exact SeqAt.EqAt.none_str b t
  |_=>exact absurd (show false=true from F) eN
 |bl a=>
  cases q;cases x with
  |aO=>cases j;exact SeqAt.EqAt.bool_none a
  |bl b=>cases j;exact SeqAt.EqAt.bool_bool a b
  |int b=>let(t,rfl):=j;exact SeqAt.EqAt.bool_int a b t
  |str b=>let(t,rfl):=j;exact SeqAt.EqAt.bool_str a b t
  |_=>exact absurd (show false=true from F) eN
 |int a=>
  let(t',rfl):=q;cases x with
  |aO=>cases j;exact SeqAt.EqAt.int_none a t'
  |bl b=>cases j;exact SeqAt.EqAt.int_bool a t' b
  |int b=>let(t,rfl):=j;exact SeqAt.EqAt.int_int a t' b t
  |str b=>let(t,rfl):=j;exact SeqAt.EqAt.int_str a t' b t
  |_=>exact absurd (show false=true from F) eN
 |str a=>
  let(t',rfl):=q;cases x with
  |aO=>cases j;exact SeqAt.EqAt.str_none a t'
  |bl b=>cases j;exact SeqAt.EqAt.str_bool a t' b
  |int b=>let(t,rfl):=j;exact SeqAt.EqAt.str_int a t' b t
  |str b=>let(t,rfl):=j;exact SeqAt.EqAt.str_str a t' b t
  |_=>exact absurd (show false=true from F) eN
 |_=>exact absurd (show false=true from z) eN
def m3(x:V)(u:Value):Bool:=match u with
 |.none=>qG .aO x
 |.bool b=>qG (.bl b) x
 |.int i _=>qG Ãm x
 |.str z _=>qG (.str z) x
 |_=>false
theorem FW{x y:V}{u:Value}(r:RelV y u)(f:mZ y=true):m3 x u=qG y x:=by
 cases y with
 |aO=>cases r;rfl
 |bl b=>cases r;rfl
 |int i=>let(t,rfl):=r;rfl
 |str z=>let(t,rfl):=r;rfl
 |_=>exact absurd (show false=true from f) eN
theorem FX{x:V}:∀{xs:ay}{U:LV},bp xs U->xs.all mZ=true->U.any Çf=xs.any λy=>qG y x:=by
 intro xs U h;induction h with
 |nil=>exact λ_=>Á
 |cons r t j=>
  intro f;rw[tq,jG] at f;rw[va,va,FW r f.1,j f.2]
theorem CH{A:Around}{s:Sh}{x:V}{v:Value}(z:RelV x v)(F:mZ x=true):∀{xs:ay}{U:LV},bp xs U->xs.all mZ=true->∀u∈U,SeqAt.EqAt A s u v (m3 x u):=by
 intro xs U h;induction h with
 |nil=>intro _ u j;cases j
 |cons r t q=>
  intro f J j;rw[tq,jG] at f;rcases a8.mp j with rfl|j
  .rw[FW r f.1];exact adQ r z f.1 F
  .exact q f.2 J j
def wZ(x:V)(xs:ay):Bool:=xs.any λy=>qG y x
inductive FY(K:FR)(neg:Bool)(x:V)(y:V)(H:Hp)(Q:VK):Prop
 |mk (p xs:_) (_:y=.ref p) (_:(ä p xs\/bw K H p xs)) (_:mZ x=true) (_:xs.all mZ=true) (_:Q (.bl (if neg then !wZ x xs else wZ x xs)) H)
def KA:fh X (compareOp .In) (FY X.K false):=by
 show ð;let(p,xs,rfl,z,fx,fs,q):=h;cases ry;rcases z with z|z
 .let(j,r,pl,hz):=I.list z;apply SeqAt.in_listAt Çf pl.isList Ű ⟨.bl _,H,I,Á,?_⟩;rw[show j.toArray.any Çf=j.any Çf by simp,FX r fs];exact q
 .let(j,r,pl,hz):=I.tuple z;apply SeqAt.in_tupleAt Çf pl Ű ⟨.bl _,H,I,Á,?_⟩;rw[show j.toArray.any Çf=j.any Çf by simp,FX r fs];exact q
def adR:fh X (compareOp .NotIn) (FY X.K true):=by
 show ð;let(p,xs,rfl,z,fx,fs,q):=h;cases ry;rcases z with z|z
 .let(j,r,pl,hz):=I.list z;apply SeqAt.notIn_listAt Çf pl.isList Ű ⟨.bl _,H,I,Á,?_⟩;rw[show j.toArray.any Çf=j.any Çf by simp,FX r fs];exact q
 .let(j,r,pl,hz):=I.tuple z;apply SeqAt.notIn_tupleAt Çf pl Ű ⟨.bl _,H,I,Á,?_⟩;rw[show j.toArray.any Çf=j.any Çf by simp,FX r fs];exact q
def gv:k9 X (.builtin "len") (λxs H Q=>∃p ys,xs=[.ref p]/\(Ák p ys\/bw X.K H p ys)/\Q (.int ys.L) H):=by
 intro pins s σ H xs U Q I r h;let(p,ys,rfl,j,q):=h;let(u,rfl,M):=vals1 r;cases M;let O:=FU;rcases j with j|j
 .let(F,z,pl,hz):=I.list j;let J:=z.L;exact Calls.call_len_list pl.isList (by grind) ⟨.int ys.L,H,I.tok _,⟨s.toks+1,by simp_all⟩,q⟩
 .let(F,z,pl,hz):=I.tuple j;let J:=z.L;exact len_tuple pl (by grind) ⟨.int ys.L,H,I.tok _,⟨s.toks+1,by simp_all⟩,q⟩
def Th:k9 X (.type "list") (λxs H Q=>∃p ys,xs=[.ref p]/\(Ák p ys\/bw X.K H p ys)/\∀l,H l=Β->Q Âa (ϑ Âw)):=by
 intro pins s σ H xs Y Q I r h;let(p,ys,rfl,J,q):=h;let(u,rfl,W):=vals1 r;cases W;let fin:∀(j:LV),bp ys j->ys.L<=sizeLine->∀(h':Heap)(z:Nat),(∀b O,s.U b=Α O->h'.I b=Α O)->
   h'.I s.Z=Α {cls:=.type "list",dict:=Β,data:=.seq j.toArray z,slots:= #[]}->ô Q ú {s with heap:=h'}:=λj F hz h' z kp e=>
  ⟨.ref s.Z,_,I.laid (t':=s.toks) kp (bA _) (show gu X.prog X.w _ h' _ Âw from⟨hz,j,z,F,e⟩),rfl,q _ ġ⟩
 rcases J with J|J
 .let(j,F,pl,hz):=I.list J;let U:=F.L;let(o,M,hc,n,hd):=pl.isList;exact call_list_seq p ĝ M hc hd (λh' z kp e=>fin j F hz h' z kp e) Å
 .let(j,F,pl,hz):=I.tuple J;let U:=F.L;let(o,M,hc,n,hd):=pl;exact call_list_seq p Ép M hc hd (λh' z kp e=>fin j F hz h' z kp e) Å
def Ti:k9 X (.type "tuple") (λxs H Q=>∃p ys,xs=[.ref p]/\((Ák p ys/\∀l,H l=Β->Q Âa (ϑ Æq))\/(bw X.K H p ys/\Q Ĝ H))):=by
 intro pins s σ H xs U Q I r h;let(p,ys,rfl,h):=h;let(u,rfl,M):=vals1 r;cases M;rcases h with ⟨z,q⟩|⟨z,q⟩
 .let(j,F,pl,hz):=I.list z;let O:=F.L;apply call_tuple_list pl.isList (λh' kp=>?_) Å;let I1:Ã H {s with heap:=h'}:=I.kept (t':=s.toks) kp;let J:Ã (upd H h'.O Æq) {s with heap:=h'.push {cls:=.type "tuple",data:=.seq j.toArray}}:=
   I1.laid (t':=s.toks) Æf (bA _) (show gu X.prog X.w _ _ _ Æq from⟨hz,j,F,IsTup.new _ _⟩)
  exact(.ref h'.O,_,J,Á,q _ Äg)
 .let(j,F,pl,hz):=I.tuple z;exact call_tuple_same pl ⟨.ref p,H,I,Á,q⟩
def KB(K:FR)(T:String)(x:V)(H:Hp):Prop:=match x with
 |.str _=>T="str"
 |.int _=>T="int"
 |.ref p=>(T="list"/\∃xs,ä p xs)\/(T="tuple"/\∃o,K.Q p=Α o/\o.cls=.type "tuple"/\o.dict=Β)\/
   (T="dict"/\((∃kvs,H p=Α đ)\/∃kvs,H p=Α Ãr))\/(T="set"/\∃S n,H p=Α (.set S n))
 |_=>False
def Tj(I:Ã H s)(r:RelV x v)(j:KB X.K T x H):
  s.TypeIs v T/\∀a,v=.ref a->∃O,s.U a=Α O/\O.dict=Β:=by
 cases x with
 |str z=>
  let(t,rfl):=r;cases (show T="str" from j);exact(typeIs_str s z t,λ_ e=>nomatch e)
 |int i=>
  let(t,rfl):=r;cases (show T="int" from j);exact(typeIs_int s i t,λ_ e=>nomatch e)
 |ref p=>
  cases r;rcases j with ⟨rfl,xs,F⟩|⟨rfl,o,hk,hc,hd⟩|⟨rfl,hk⟩|⟨rfl,S,n,hk⟩
  .let(J,_,pl,_):=I.list F;apply(pl.isList.typeIs,λa e=>?_);cases e;let(o,n,e,c,hd,_):=pl;symm
  .apply(⟨o,I.gD p o hk,hc⟩,λa e=>?_);cases e;exact(o,I.gD _ o hk,hd)
  .let z:∃o,s.U p=Α o/\o.ExactDict:=by
    rcases hk with ⟨kvs,hk⟩|⟨kvs,hk⟩
    .let(_,_,_,_,o,_,_,e,ex,_):=I.aD p _ hk;symm
    .let(_,_,_,_,o,_,_,e,ex,_):=I.aD p _ hk;symm
   let(o,e,ex):=z;apply(⟨o,e,ex.1⟩,λa q=>?_);cases q;exact(o,e,ex.2.1)
  .let(o,_,_,_,e,ex,_):=I.aD p _ hk;apply(⟨o,e,ex.1⟩,λa q=>?_);cases q;exact(o,e,ex.2.1)
 |_=>exact False.elim j
def adS(K:FR)(T:String)(r:V->ay->Hp->VK->Prop)(to:TE):TE:=λσ H Q=>to σ H λx H1=>KB K T x H1/\r x [] H1 Q
def To(K:FR)(T:String)(r:V->ay->Hp->VK->Prop)(to:TE)(t:TA):TE:=λσ H Q=>to σ H λx H1=>KB K T x H1/\t σ H1 λxs j=>r x xs j Q
variable{o e:Expr}{es:List Expr}{to:TE}{t:TA}{name:Str}{jf gG:Pos}{T id:String}{r:V->ay->Hp->VK->Prop}
def Tp(M:PlainAttrs T)(slot:Slot T name id)(W:typeOf ϖ=pure (.type "method_descriptor"))(F:Kz X id r)(J:PE X o to)(Z:attributeBase o name X.env Åa=eval o X.env:=by rfl) (yC:(jf.endLine==gG.line)=true:=by rfl):PE X (.Call (.Attribute o name jf) [] [] gG) (adS X.K T r to):=by
 show Ú;apply wpAny_Call_method0_late Z yC (aP (J pins s σ H _ I h) λv U ⟨x,H1,j,q,Y,O⟩=>?_);let(z,h2):=Tj j q Y;exact(T,id,M,slot,W,z,h2,JC Á (PySem.evalArgs_none (F pins U σ H1 x [] v [] Q j q .nil O)))
def pO(pa:PlainAttrs T)(slot:Slot T name id)(tO:typeOf ϖ=pure (.type "method_descriptor"))(Y:Kz X id r)(Z:PE X o to)(W:PA X (e::es) t)(ve:attributeBase o name X.env Åa=eval o X.env:=by rfl)(F:((backTo gG (starEach (e::es) X.env)).all (λx=>!x.1)&&(backToKw gG Ϲ).all (λx=>x.1.isSome)
   &&decide ((e::es).L+([]:List Keyword).L+(if ([]:List Keyword).isEmpty then 0 else 1)<30))=true:=by rfl)
  (yC:(jf.endLine==gG.line)=true:=by rfl) (hs:starEach (e::es) X.env=(false,eval e X.env)::starEach es X.env:=by rfl) (O:(backTo gG û).any (·.1)=false:=by rfl):
  PE X (.Call (.Attribute o name jf) (e::es) [] gG) (To X.K T r to t):=by
 show Ú;apply wpAny_Call_method_late ve F yC Á (aP (Z pins s σ H _ I h) λv s1 ⟨x,H1,j,z,ty,q1⟩=>?_);let(U,h2):=Tj j z ty;apply(T,id,pa,slot,tO,U,h2,?_);let q:=W gG pins s1 σ H1 _ j q1;rw[hs] at q⊢;apply JC (by assumption) (RE ?_);exact aP q λus s2 ⟨vs,J,M,r2,q2⟩=>Y pins s2 σ J x vs v us Q M z r2 q2
end
def KC(X:Cx)(id:String)(r:V->ay->Hp->VK->Prop):Prop:=
 ∀(pins:cb)(s:Sh)(σ:St)(H:Hp)(x:V)(xs:ay)(v:Value)(U:LV)(Q:VK),Ã H s->RelV x v->bp xs U->r x xs H Q->
  wpAny È X.A (call ϖ (v::U)) (ô Q) X.xe s
theorem bp.one:∀{x:V}{U:LV},bp [x] U->∃u,U=[u]/\RelV x u:=by
 intro x U h;cases h with
 |cons r t=>cases t;exact(_,Á,r)
def bp.zero:∀{U:LV},bp [] U->U=[]:=by
 intro U h;cases h;rfl
theorem bp.dropLast(h:bp xs us):bp xs.dropLast us.dropLast:=by
 induction h with
 |nil=>exact .nil
 |cons r t j=>
  cases t with
  |nil=>exact .nil
  |cons q t'=>exact .cons r j
def adT(l:List α):l.eraseIdx (l.L-1)=l.dropLast:=by
 simp
section
variable{X:Cx}{pins:cb}{σ:St}{H:Hp}{s:Sh}{l b:Addr}{xs ys zs:ay}
def Inv.KD{j its':LV}{n:Nat}{f:Array Value->Array Value}{t':Nat}(I:Ã H s)(z:H l=Α Àp)(e:s.U l=Α {cls:=.type "list",data:=.seq j.toArray n}) (J:f j.toArray=its'.toArray) (O:bp ys its') (hz:ys.L<=sizeLine):
  Inv X pins σ (ϑ Âw) {s with heap:=s.H.update l (Obj.mapSeq f),toks:=t'}:=by
 let q:=PySem.IsL.update e f;rw[J] at q;apply I.write (x:=l) (e:=l) (by rw[z];exact trivial) ĝ (λU u F M=>(kW s.H (Obj.mapSeq f) (eE F)).R M) ⟨_,q⟩ ?_;exact(hz,its',_,O,q)
def Inv.adU{j:LV}{t':Nat}(I:Ã H s)(z:bp ys j)(hz:ys.L<=sizeLine):
  Inv X pins σ (ĕ Âw) {s with heap:=s.o {cls:=.type "list",data:=.seq j.toArray},toks:=t'}:=
 I.laid (λ_ _ q=>du _ q) (bA _) ⟨hz,j,0,z,ia _ rfl⟩
def Inv.fresh(I:Ã H s):H s.Z=Β:=I.aD.fresh (bA _)
def Inv.Aq(I:Ã H s)(q:H l=Α Àp):xs.L<=sizeLine/\∃(j:LV)(n:Nat),bp xs j/\xs.L=j.L/\s.U l=Α {cls:=.type "list",data:=.seq j.toArray n}:=by
 let(z,j,n,r,e):=I.aD l _ q;exact(z,j,n,r,r.L,e)
def adV{n:Nat}(h:n<=sizeLine):Builtin.List.listTooLong n=false:=by
 ext Builtin.List.listTooLong;symm
end
inductive adW(x:V)(vs:ay)(H:Hp)(Q:VK):Prop
 |mk (l xs y:_) (_:x=.ref l) (_:vs=[y]) (_:H l=Α Àp) (_:xs.L<sizeLine) (_:Q .aO (ϑ (.lst (xs++[y]))))
def yD:KC X "list.append" adW:=by
 intro pins s σ H x vs v Y Q I U O h;let(l,xs,y,rfl,rfl,J,hz,q):=h;cases U;let(u,rfl,M):=O.one;let(z,j,n,r,W,e):=I.Aq J;apply JD F.slot_list_append ⟨_,e,Á⟩ F.entry_list_append (F.args_list_append_2 _ _) (PySem.list_append l j.toArray n u Å) ⟨e,?_⟩;apply(.aO,_,I.KD (its':=j++[u]) J e Ä (r.append (.cons M .nil)) ?_,Á,q);grind
inductive adX(x:V)(vs:ay)(H:Hp)(Q:VK):Prop
 |mk (l b xs zs:_) (_:x=.ref l) (_:vs=[.ref b]) (_:H l=Α Àp) (_:H b=Α (.lst zs)) (_:xs.L+zs.L<=sizeLine) (_:Q .aO (ϑ (.lst (xs++zs))))
def FZ:KC X "list.extend" adX:=by
 intro pins s σ H x vs v us Q I rx rv h;let(l,b,xs,zs,rfl,rfl,M,W,hz,q):=h;cases rx;let(u,rfl,ru):=rv.one;cases ru;let(z,j,n,r,hl,e):=I.Aq M;let(z2,O,Y,Z,jM,U):=I.Aq W;let hsz:j.toArray.u+O.toArray.u<=sizeLine:=by rw[u9,u9];symm
 let J:¬(!j.toArray.isEmpty&&Builtin.List.listTooLong (j.toArray.u+O.toArray.u))=true:=by
  rw[adV hsz,zV];simp
 refine JD F.slot_list_extend ⟨_,e,Á⟩ F.entry_list_extend (F.args_list_extend_2 _ _)
  (AutoSeq1.list_extend_list_list_0 l j.toArray n b O.toArray Y J (by rw[u9];symm) Î) ⟨e,U,?_⟩
 apply(.aO,_,I.KD (its':=j++O) M e Ä (r.append Z) ?_,Á,q);symm
inductive adZ(x:V)(vs:ay)(H:Hp)(Q:VK):Prop
 |mk (l xs y:_) (_:x=.ref l) (_:vs=[]) (_:H l=Α Àp) (_:xs[xs.L-1]? =Α y) (_:Q y (ϑ (.lst xs.dropLast)))
def Tq:KC X "list.pop" adZ:=by
 intro pins s σ H x vs v us Q I rx rv h;let(l,xs,y,rfl,rfl,M,Y,q):=h;cases rx;let J:=rv.zero;subst J;let(z,j,n,r,U,e):=I.Aq M;let(u,W,Z):=r.get Y;let O:j.toArray[j.toArray.u-1]? =Α u:=by
  show j.toArray[j.L-1]? =Α u;rw[<-aa7,<-U];exact W
 apply JD F.slot_list_pop ⟨_,e,Á⟩ F.entry_list_pop (F.args_list_pop_1 _) (MeetsSeq.list_pop_last l j.toArray n u O (by rw[u9];symm)) ⟨e,?_⟩;apply(y,_,I.KD (its':=j.dropLast) M e ?_ r.dropLast ?_,Z,q)
 .show j.toArray.eraseIdxIfInBounds (j.toArray.u-1)=j.dropLast.toArray;rw[u9,List.eraseIdxIfInBounds_toArray,adT]
 .rw[aa8];grind
inductive Tr(x:V)(y:V)(H:Hp)(Q:VK):Prop
 |mk (l b xs zs:_) (_:x=.ref l) (_:y=.ref b) (_:H l=Α Àp) (_:H b=Α (.lst zs)) (_:xs.L+zs.L<=sizeLine) (_:∀p,H p=Β->Q Ĝ (upd H p (.lst (xs++zs))))
def Ts:fh X (binaryOp .Add) Tr:=by
 show ð;let(l,b,xs,zs,rfl,rfl,U,M,hz,q):=h;cases rx;cases ry;let(z,j,n,r,Y,e):=I.Aq U;let(z2,O,n2,W,Z,F):=I.Aq M;apply PySem.P.add_list e F ?_ Å;let J:j.toArray++O.toArray=(j++O).toArray:=by simp
 rw[J];exact(.ref _,_,I.adU (t':=s.toks) (r.append W) Å,Á,q _ I.fresh)
theorem bp.ints{ns:LI}:∀{U:LV},bp Ŭ U->IntsAre U ns:=by
 induction ns with
 |nil=>
  intro U h;rw[mJ] at h;cases h;exact IntsAre.nil
 |cons n ns j=>
  intro U h;rw[a7] at h;cases h with
  |cons r t=>
   let(k,rfl):=r;exact IntsAre.cons n k (j t)
theorem bp.Tv{bs:List Bool}:∀{U:LV},bp (bs.M V.bl) U->U=bs.M Value.bool:=by
 induction bs with
 |nil=>
  intro U h;rw[mJ] at h;cases h;rfl
 |cons b bs j=>
  intro U h;rw[a7] at h;cases h with
  |cons r t=>
   cases r;rw[j t,a7]
theorem bp.Ar{a:Addr}{U:LV}(r:bp [V.ref a] U):U=[Value.ref a]:=by
 cases r with
 |cons r t=>
  cases t;cases r;rfl
def ad1(z:A.handled=Β)(j:s.H.IsList l aj.toArray)(hi:IntsAre aj ns)(h:∀h' tk t',(∀b o,s.U b=Α o->h'.I b=Α o)->Q (.int ns.sum t') {s with heap:=h',toks:=tk}):wpAny Í A (call (.builtin "sum") [.ref l]) Q E s:=by
 let(xs,e):=hi.allInts.items;let q:numsOf (intItems xs).toList=ns:=by rw[<-e];exact hi.numsOf
 rw[nums_intItems] at q;rw[e] at j;apply PySem.sum_intListG z j λh' tk t' hk=>?_;let:=h h' tk t' hk;rw[preSum_eq,JE Ä,q];exact this
def ad2(O:A.handled=Β)(q:s.H.IsList l aj.toArray)(hi:IntsAre aj ns)(F:0<ns.L)(h:∀h' tk M t',(∀b o,s.U b=Α o->h'.I b=Α o)->M∈ns->(∀a,a∈ns->M<=a)->Q (.int M t') {s with heap:=h',toks:=tk}):wpAny Í A (call (.builtin "min") [.ref l]) Q E s:=by
 let(xs,e):=hi.allInts.items;let z:numsOf (intItems xs).toList=ns:=by rw[<-e];exact hi.numsOf
 rw[nums_intItems] at z;subst z;rw[e] at q;let hsz:0<xs.u:=À F
 apply PySem.min_intList O q hsz λv h' tk W hk=>?_;let(t,rfl):=intItems_at W;let(Y,h2):=argBest_lt (numAt xs) (xs.u-1);apply h h' tk _ t hk ?_ λa J=>?_
 .rw[numAt_eq];exact PySem.getD_mem (by rw[ak,yh];omega)
 .let(j,U,rfl):=mem_getD J;rw[ak,yh] at U;rw[<-numAt_eq];exact h2 j (by omega)
inductive ad3(K:FR)(vs:ay)(H:Hp)(Q:VK):Prop
 |mk (a:Addr) (ns:LI) (_:vs=[V.ref a]) (_:ä a Ŭ) (_:Q (.int ns.sum) H)
def ad4(K:FR):ay->Hp->VK->Prop:=λvs H Q=>∃(a:Addr)(ns:LI),vs=[V.ref a]/\ä a Ŭ/\0<ns.L/\∀m,m∈ns->(∀y,y∈ns->m<=y)->Q (.int m) H
def KF(hc:X.calm=true):k9 X (.builtin "sum") (ad3 X.K):=by
 intro pins s σ H vs U Q I r h;let(a,ns,rfl,hs,q):=h;let(F,z,j,_):=I.list hs;rw[bp.Ar r];exact ad1 ă j.isList z.ints λh' tk t' hk=>⟨.int _,H,I.kept hk,⟨_,Á⟩,q⟩
def Tw(hc:X.calm=true):k9 X (.builtin "min") (ad4 X.K):=by
 intro pins s σ H vs U Q I r h;let(a,ns,rfl,hs,j,q):=h;let(M,J,F,_):=I.list hs;rw[bp.Ar r];exact ad2 ă F.isList J.ints j λh' tk m t' hk z h2=>⟨.int _,H,I.kept hk,⟨_,Á⟩,q m z h2⟩
inductive Tx(K:FR)(x:V)(xs:ay)(H:Hp)(Q:VK):Prop
 |mk (a:Addr) (ys:ay) (y:V) (j:Nat) (z:V) (_:x=V.ref a) (_:xs=[y]) (_:ä a ys) (_:mZ y=true) (_:ys.all mZ=true) (_:ys[j]? =Α z) (_:qG z y=true) (_:(∀(m:Nat)(z':V),m<j->ys[m]? =Α z'->qG z' y=false)) (_:Q (.int (j:Nat)) H)
def Tz{ys:ay}(f:ys.all mZ=true){j:Nat}{z:V}(h:ys[j]? =Α z):mZ z=true:=jH.mp f z (bj h)
def TF:Kz X "list.index" (Tx X.K):=by
 intro pins s σ H x xs v us Q I rx rxs h;let(a,ys,y,j,z,rfl,rfl,hs,fy,U,hz,hzj,CJ,q):=h;cases rx;cases rxs with
 |cons ry rt=>
  rename_i uy ut;cases rt;let(J,M,((cls,dd,data,sl),n,ho,hc,hdn,hd),bZ):=I.list hs;simp only at hc hd;subst hc hd;let(u,hu,ru):=M.get hz;let(oC,Y):=bo.mp hu;let KH:=M.L;let hj:j<J.toArray.u:=À oC
  let pP:=yg;refine JD PySem.F.slot_list_index ⟨_,ho,Á⟩ PySem.F.entry_list_index (PySem.F.args_list_index_2 _ _)
   (SeqAt.list_indexAt a J.toArray n dd sl uy (m3 y) j hj Î ?_ ?_) ⟨ho,λu' F1=>CH ry fy M U u' (À F1),?_⟩
  .let W:J.toArray[j]=u:=by simpa using Y
   rw[W,FW ru (Tz U hz)];exact hzj
  .intro m hm hmj;let CM:m<J.L:=by simpa using hm
   let hmy:m<ys.L:=by simp_all
   let O:ys[m]? =Α ys[m]:=cI hmy;let(u2,KI,KJ):=M.get O;let(_,Z):=bo.mp KI;let W:J.toArray[m]=u2:=À Z
   rw[W,FW KJ (Tz U O)];exact CJ m _ hmj O
  .exact(.int (j:Nat),H,I.tok _,⟨_,Á⟩,q)
def TJ{prog:Pg}{w:Wd}{A:Around}{E:VP}{s:Sh}{l:Addr}{items:Array Value}{Q:VP}(q:s.H.IsList l items)(h:∀j:Sh,j={s with heap:=s.o {cls:=.type "list_iterator",data:=.fields #[.ref l,.int 0 0]}}->
   (j.H.IsListIter s.Z l 0/\j.H.IsList l items)->l≠s.Z->Q ú j):wpAny Í A (pyIter Âa) Q E s:=by
 let z:l<s.Z:=by let(_,e,_):=q;exact dh e
 exact Rz q (h _ Á ⟨⟨_,ia _ Á,Á,Á⟩,q.push _⟩ (fU z))
def TQ{prog:Pg}{w:Wd}{A:Around}{bs:List Bool}{j:LV}(e:j=bs.M Value.bool):
  TruthOf prog w A (λi v=>j.toArray[i]? =Α v) Ãb:=λi v s Q E O M=>by
 let q:j[i]? =Α v:=À O
 rw[e,bz] at q;let(b,z,rfl):=u0.mp q;let F:bs.D i false=b:=by rw[ij,z] <;> rfl
 let J:Q (bs.D i false) s:=M;rw[F] at J;exact tp J
theorem any_range:∀bs:List Bool,(List.range bs.L).any Ãb=bs.any id:=by
 intro bs;induction bs with
 |nil=>exact Á
 |cons b bs j=>
  rw[dg,zW,va,JF,va,<-j]
  all_goals rfl
theorem all_range:∀bs:List Bool,(List.range bs.L).all Ãb=bs.all id:=by
 intro bs;induction bs with
 |nil=>exact Á
 |cons b bs j=>
  rw[dg,zW,tq,rH,tq,<-j]
  all_goals rfl
inductive aeb(K:FR)(vs:ay)(H:Hp)(Q:VK):Prop
 |mk (a:Addr) (bs:List Bool) (_:vs=[V.ref a]) (_:ä a (bs.M V.bl)) (_:Q (.bl (bs.any id)) H)
inductive aec(K:FR)(vs:ay)(H:Hp)(Q:VK):Prop
 |mk (a:Addr) (bs:List Bool) (_:vs=[V.ref a]) (_:ä a (bs.M V.bl)) (_:Q (.bl (bs.all id)) H)
def KL(hc:X.calm=true):k9 X (.builtin "any") (aeb X.K):=by
 intro pins s σ H vs us Q I r h;let(a,bs,rfl,hs,q):=h;let(M,Y,W,_):=I.list hs;rw[bp.Ar r];let z:=Y.Tv;apply call_any_walk (TJ W.isList λZ U st J=>?_);subst U;apply(_,_,_,_,_,_,_,Á,Walks.list (A:=X.A.in1) ă _ a J M.toArray,st,TQ z,λh' tk hk=>?_);apply(.bl _,H,I.kept λb o j=>hk b o (λF=>?_) (du _ j),?_,q)
 .rcases a8.mp F with O|F
  .exact absurd (O▸ dh j) (nq _)
  .symm
 .show Value.bool _=Value.bool _;rw[<-any_range,z,u9,ak]
def w6(hc:X.calm=true):k9 X (.builtin "all") (aec X.K):=by
 intro pins s σ H vs us Q I r h;let(a,bs,rfl,hs,q):=h;let(M,Y,W,_):=I.list hs;rw[bp.Ar r];let z:=Y.Tv;apply call_all_walk (TJ W.isList λZ U st J=>?_);subst U;apply(_,_,_,_,_,_,_,Á,Walks.list (A:=X.A.in1) ă _ a J M.toArray,st,TQ z,λh' tk hk=>?_);apply(.bl _,H,I.kept λb o j=>hk b o (λF=>?_) (du _ j),?_,q)
 .rcases a8.mp F with O|F
  .exact absurd (O▸ dh j) (nq _)
  .symm
 .show Value.bool _=Value.bool _;rw[<-all_range,z,u9,ak]
mutual
inductive Dp(K:FR)(H:Hp):V->PyData->Prop
 |aO:Ál .aO .none
 |bl (b:Bool):Ál (.bl b) (.bool b)
 |int (i:Int):Ál Ãm Ãm
 |str (x:Str):Ál Çy Çy
 |lst {a:Addr} {xs:ay} {ds:List PyData}:ä a xs->jm K H xs ds->Ál ħ (.list ds)
 |tup {a:Addr} {xs:ay} {ds:List PyData}:š a xs->jm K H xs ds->Ál ħ (.tuple ds)
inductive jm(K:FR)(H:Hp):ay->List PyData->Prop
 |nil:jm K H [] []
 |cons {v:V} {vs:ay} {d:PyData} {ds:List PyData}:Ál v d->jm K H vs ds->jm K H (v::vs) (d::ds)
end
section
variable{X:Cx}{pins:cb}{σ:St}{H:Hp}{s:Sh}
def Dp.reads(I:Ã H s)(d:PyData)(v:V)(u:Value)(h:Dp X.K H v d):RelV v u->∃as,Reads s.H u d as:=
 Dp.rec (motive_1:=λv d _=>∀u,RelV v u->∃as,Reads s.H u d as) (motive_2:=λvs J _=>∀U,bp vs U->∃as,ReadsAll s.H U J as)
  (λu r=>by cases r;exact(_,Reads.none)) (λb u r=>by cases r;exact(_,Reads.bool b)) (λi u r=>by let(t,rfl):=r;exact(_,Reads.int i t)) (λx u r=>by let(t,rfl):=r;exact(_,Reads.str x t))
  (λhs _ z u r=>by
   cases r;let(j,F,(o,n,q,hc,_,hd),_):=I.list hs;let(as,hr):=z j F;exact(_,Reads.list q hc hd hr))
  (λhs _ z u r=>by
   cases r;let(j,F,(o,q,hc,n,hd),_):=I.tuple hs;let(as,hr):=z j F;exact(_,Reads.tuple q hc hd hr))
  (λU r=>by cases r;exact(_,ReadsAll.nil))
  (λ_ _ M O U r=>by
   cases r with
   |cons Z r2=>
    let(as,W):=M _ Z;let(bs,Y):=O _ r2;exact(_,ReadsAll.cons W Y)) h u
end
def aed(K:FR):R2:=λx y H Q=>∃d e,Ál x d/\Ál y e/\SeqAt.shaped d=true/\SeqAt.shaped e=true/\Q (.bl (PyData.eqv d e)) H
def TU(K:FR):R2:=λx y H Q=>∃d e,Ál x d/\Ál y e/\SeqAt.shaped d=true/\SeqAt.shaped e=true/\Q (.bl (!PyData.eqv d e)) H
def TX(z:X.A.units+64<cLine):fh X Áz (aed X.K):=by
 show ð;let(d,e,hd,j,sd,M,q):=h;let(as,F):=Dp.reads I d x v hd rx;let(bs,J):=Dp.reads I e y u j ry;exact SeqAt.compareEq_shaped F J sd M z ⟨.bl _,H,I,Á,q⟩
def F2(z:X.A.units+64<cLine):fh X Âi (TU X.K):=by
 show ð;let(d,e,hd,j,sd,M,q):=h;let(as,F):=Dp.reads I d x v hd rx;let(bs,J):=Dp.reads I e y u j ry;exact SeqAt.compareNe_shaped F J sd M z ⟨.bl _,H,I,Á,q⟩
end L2
namespace L2
open PySem PySem.Spec PyProof.Rows
abbrev TY(h:Heap)(c:Addr)(v:Option Value):Prop:=h.IsCell c v
def aee(j q:Scope):Scope:=
 {j with names:=j.names.M λ(n,k)=>if (k== .free&&q.kind== .function&&q.names.Q n==Α .cell) then (n,.cell) else (n,k)}
def jn(cells:gr):List (Str×NameKind)->gr->gr
 |[],acc=>acc
 |(n,k)::r,acc=>if k== .free then jn cells r ((n,(cells.Q n).D 0)::acc) else jn cells r acc
def aef(env:Env)(f:Str×NameKind->gr->Sem (ForInStep gr))(F:∀n k c,f (n,k) c=if k== .free then (do let a <-cellOf env n;pure (.yield ((n,a)::c))) else pure (.yield c)):
  ∀(names:List (Str×NameKind))(acc:gr),(∀y∈names,y.2=.free->∃c,env.cells.Q y.1=Α c)->forIn names acc f=pure (jn env.cells names acc):=by
 intro names;induction names with
 |nil=>
  intro acc _;rw[List.forIn_nil];rfl
 |cons q r j=>
  let(n,k):=q;intro acc h;rw[List.forIn_cons,F];let j:=λacc=>j acc λy J=>h y (aK _ J);ext jn;by_cases hk:(k==NameKind.free)=true
  .rw[ah hk,ah hk];let(c,hc):=h (n,k) eO (À hk);let e:cellOf env n=pure c:=by ext cellOf;rw[hc]
   rw[e];let z:(env.cells.Q n).D 0=c:=by rw[hc];rfl
   rw[z];exact j _
  .rw[ag hk,ag hk];exact j _
def aeg(h:∀y∈scope.names,y.2=.free->∃c,env.cells.Q y.1=Α c):closureFor scope env=pure (jn env.cells scope.names []):=by
 simp only[closureFor];rw[aef env _ (λn k c=>rfl) scope.names [] h];rfl
theorem mem_lookup{α:Type}{l:List (Str×α)}:∀{n:Str}{c:α},(n,c)∈l->∃j,l.Q n=Α j:=by
 induction l with
 |nil=>intro n c h;cases h
 |cons p r q=>
  intro n c h;let(k,v):=p;rw[yj];cases hb:n==k with
  |true=>exact(_,Á)
  |false=>
   rcases a8.mp h with e|h
   .cases e;simp at hb
   .exact q h
theorem TZ{cells:gr}{names:List (Str×NameKind)}:∀{acc:gr}{n:Str}{c:Addr},(n,c)∈jn cells names acc->(n,c)∈acc\/((n,.free)∈names/\c=(cells.Q n).D 0):=by
 induction names with
 |nil=>exact @λ_ _ _ h=>.inl h
 |cons q r z=>
  let(m,k):=q;intro acc n c h;delta jn at h;split at h
  .rename_i hk;let hk:k=.free:=by simpa using hk
   rcases z h with h|⟨j,h2⟩
   .rcases a8.mp h with e|h
    .cases e;exact .inr ⟨hk▸ eO,Á⟩
    .exact .inl h
   .exact .inr ⟨aK _ j,h2⟩
  .rcases z h with h|⟨j,h2⟩
   .exact .inl h
   .exact .inr ⟨aK _ j,h2⟩
theorem aeh{cells:gr}{names:List (Str×NameKind)}:∀{acc:gr}{p:Str×Addr},p∈acc->p∈jn cells names acc:=by
 induction names with
 |nil=>exact @λ_ _ h=>h
 |cons j r q=>
  let(m,k):=j;intro acc p h;ext jn;split
  .exact q (aK _ h)
  .exact q h
theorem aei{cells:gr}{names:List (Str×NameKind)}:∀{acc:gr}{n:Str},(n,.free)∈names->(n,(cells.Q n).D 0)∈jn cells names acc:=by
 induction names with
 |nil=>intro acc n h;cases h
 |cons p r j=>
  intro acc n h;ext jn;rcases a8.mp h with e|h
  .cases e;exact aeh eO
  .split
   .exact j h
   .exact j h
def KM{names:List (Str×NameKind)}:∀{h:Heap}{acc:gr}{x:Str}{c:Addr},(x,c)∈cellsFrom h.O names acc->
  (x,c)∈acc\/((x,.cell)∈names/\h.O<=c/\TY (pushCells h names) c none):=by
 induction names with
 |nil=>exact @λ_ _ _ _ h=>.inl h
 |cons F r J=>
  let(n,k):=F;intro h acc x c j;delta cellsFrom at j;ext pushCells;split at j
  .rename_i hk;rw[ah hk];let hk:k=.cell:=by simpa using hk
   rw[<-qw h {cls:=.type "cell",data:=.cell none}] at j;rcases J j with j|⟨q,h2,z⟩
   .rcases a8.mp j with e|j
    .cases e;exact .inr ⟨hk▸ eO,bA _,_,RF r _ _ _ (ia _ Á),Á⟩
    .exact .inl j
   .rw[qw] at h2;exact .inr ⟨aK _ q,RG h2,z⟩
  .rename_i hk;rw[ag hk];rcases J j with j|⟨q,h2,z⟩
   .exact .inl j
   .exact .inr ⟨aK _ q,h2,z⟩
theorem T3{names:List (Str×NameKind)}:∀{n:Nat}{acc:gr}{p:Str×Addr},p∈acc->p∈cellsFrom n names acc:=by
 induction names with
 |nil=>exact @λ_ _ _ h=>h
 |cons j r q=>
  let(m,k):=j;intro n acc p h;ext cellsFrom;split
  .exact q (aK _ h)
  .exact q h
theorem aej{names:List (Str×NameKind)}:∀{n:Nat}{acc:gr}{x:Str},(x,.cell)∈names->∃c,(x,c)∈cellsFrom n names acc:=by
 induction names with
 |nil=>intro n acc x h;cases h
 |cons p r j=>
  intro n acc x h;ext cellsFrom;rcases a8.mp h with e|h
  .cases e;exact(n,T3 eO)
  .split
   .exact j h
   .exact j h
def aek{names:List (Str×NameKind)}:∀{h:Heap}{acc:gr}{x y:Str}{c:Addr},(∀p∈acc,p.2<h.O)->(∀x y c,(x,c)∈acc->(y,c)∈acc->x=y)->
  (x,c)∈cellsFrom h.O names acc->(y,c)∈cellsFrom h.O names acc->x=y:=by
 induction names with
 |nil=>exact @λ_ _ _ _ _ _ hi j h2=>hi _ _ _ j h2
 |cons z r M=>
  let(n,k):=z;intro h acc x y c q hi j h2;delta cellsFrom at j h2;split at j
  .rename_i hk;rw[ah hk] at h2;rw[<-qw h {cls:=.type "cell",data:=.cell none}] at j h2;apply M (h:=h.push _) (λp F=>?_) (λx y c a b=>?_) j h2
   .rw[qw];rcases a8.mp F with rfl|F
    .exact RA _
    .exact Fl (q p F)
   .rcases a8.mp a with e|a <;> rcases a8.mp b with J|b
    .cases e;cases J;rfl
    .cases e;exact absurd (q _ b) (nq _)
    .cases J;exact absurd (q _ a) (nq _)
    .exact hi _ _ _ a b
  .rename_i hk;rw[ag hk] at h2;exact M q hi j h2
def ael{M:Model}{A:Around}{E:VP}{s:Sh}{j:Scope}{globals:Addr}{J:gr}{O:Str}{q:OA}{code:Value}{z:Env}{F:Addr}{Q:Env->Shared->Prop}(h:Q (newEnv j s.Z globals (cellsFrom Û j.names J) O q code (some z) F) {s with heap:=pushCells (s.o {cls:=.type "dict",data:=.dict #[]}) j.names}):
  wpAny M A (newFunctionEnv j globals J [] O q code (some z) F) Q E s:=by
 simp only[newFunctionEnv,atF,Fk];apply aF (wpAny_alloc ?_);apply aF (wpAny_layCells _ (λn k c=>Á) j.names J _ _ ?_);rw[show({s with heap:=s.o {cls:=.type "dict",data:=.dict #[]}}:Sh).Z=s.Z+1 from qw ..];rw[List.forIn_nil];exact aF (cV (cV h))
def T4{j:Scope}{names:List (Str×NameKind)}:∀{x:Str}{k:NameKind},
  (names.M λ(n,k)=>if (k==NameKind.free&&j.kind== .function&&j.names.Q n==Α .cell) then (n,NameKind.cell) else (n,k)).Q x=Α k->
  ∃J,names.Q x=Α J/\(k=J\/(J=.free/\k=.cell)):=by
 induction names with
 |nil=>
  intro _ _ h;simp at h
 |cons F r z=>
  let(n,q):=F;intro x k h;let z:=@z x k;let h':List.lookup x ((if (q==NameKind.free&&j.kind== .function&&j.names.Q n==Α .cell)=true then (n,NameKind.cell) else (n,q))::(r.M _))=Α k:=h;cases hx:x==n with
  |true=>
   simp only[yj,hx];by_cases hc:(q==NameKind.free&&j.kind== .function&&j.names.Q n==Α .cell)=true
   .rw[ah hc] at h';simp only[yj,hx] at h';cases h';simp only[jG,zS] at hc;exact(q,Á,.inr ⟨hc.1.1,Á⟩)
   .rw[ag hc] at h';simp only[yj,hx] at h';cases h';exact(_,Á,.inl Á)
  |false=>
   simp only[yj,hx];by_cases hc:(q==NameKind.free&&j.kind== .function&&j.names.Q n==Α .cell)=true
   .rw[ah hc] at h';simp only[yj,hx] at h';exact z h'
   .rw[ag hc] at h';simp only[yj,hx] at h';exact z h'
structure yE(N:LS)(sc scope:Scope)(own:List (Str×Nat)):Prop where
 kind:scope.kind=.function
 uniq:∀y∈scope.names,scope.names.Q y.1=Α y.2
 ix:∀p∈own,N[p.2]? =Α p.1
 free:∀y∈scope.names,y.2=.free->sc.names.Q y.1=Α .cell\/sc.names.Q y.1=Α .free
 own:∀y∈scope.names,y.2=.local\/y.2=.cell->y.1∈own.M (·.1)\/y.1∉N
def wipe(σ:St):LN->St
 |[]=>σ
 |v::vs=>(wipe σ vs).set v none
theorem T5(σ:St):∀vs:LN,(wipe σ vs).L=σ.L:=by
 intro vs;induction vs with
 |nil=>exact Á
 |cons v vs j=>
  ext wipe;rw[List.length_set,j]
theorem T6{σ:St}{i:Nat}{x:V}{vs:LN}:ľ[i]? =Α (some x)->σ[i]? =Α (some x)/\i∉vs:=by
 induction vs with
 |nil=>exact @λh=>⟨h,by simp⟩
 |cons v vs z=>
  intro h;delta wipe at h;by_cases hi:v=i
  .subst hi;by_cases j:v<(wipe σ vs).L
   .rw[aaX j] at h;cases h
   .rw[yk (À j)] at h;cases h
  .rw[aaY hi] at h;let(q,h2):=z h;exact(q,by simp only[a8,not_or];exact(λe=>hi e.symm,h2))
abbrev Cx.gS(X:Cx)(s:Sh)(H:Hp)(j:Scope)(F:Env)(fp:LA):Cx:={X with jK:=s,yo:=H,env:=F,outer:=X.stack,ex:=fp,fn:=λx=>j.names.Q x==Α .cell,pn:=[],xe:=λ_ _=>False}
section
variable{X:Cx}{pins:cb}{σ:St}{H:Hp}{s:Sh}
def aem{scope:Scope}{own:List (Str×Nat)}{fp:LA}(I:Ã H s)(ok:ĵ own)(hN:X.N.Nodup)(w8:∀b∈fp,ň H b/\b<s.Z):
  Inv (X.gS s H scope (compEnvC scope (cellsFrom Û scope.names (Ŷ [])) s.Z X.env) fp) [] (wipe σ (own.M (·.2))) H {s with heap:=pushCells (s.o {cls:=.type "dict",data:=.dict #[]}) scope.names}:=by
 let FA:∀y∈scope.names,y.2=.free->∃c,X.env.cells.Q y.1=Α c:=λy U e=>by
  rcases ok.free y U e with k|k
  .exact I.ok.has _ (.inl k)
  .exact I.ok.has _ (.inr k)
 generalize hcenv:compEnvC scope (cellsFrom Û scope.names (Ŷ [])) s.Z X.env=F;let kp:∀b o,s.U b=Α o->(pushCells (s.o {cls:=.type "dict",data:=.dict #[]}) scope.names).I b=Α o:=λb o e=>RF _ _ _ _ (du _ e);let hL:F.locals=s.Z:=by rw[<-hcenv];rfl
 let gH:F.cells=cellsFrom Û scope.names (Ŷ []):=by rw[<-hcenv];rfl
 let KN:F.scope=aee scope X.env.scope:=by rw[<-hcenv];rfl
 rw[<-qw s.H {cls:=.type "dict",data:=.dict #[]}] at gH;let cm:∀{y c},(y,c)∈jn X.env.cells scope.names []->X.env.cells.Q y=Α c/\c<s.Z:=λ{y c}M=>by
  rcases TZ M with M|⟨j,rfl⟩
  .cases M
  .let(c,hc):=FA _ j rfl;rw[hc];let(w,z):=I.cell _ _ hc;exact(Á,z.lt)
 let mem:∀{y c},F.cells.Q y=Α c->(X.env.cells.Q y=Α c/\c<s.Z)\/(s.Z+1<=c/\TY (pushCells (s.o {cls:=.type "dict",data:=.dict #[]}) scope.names) c none):=λ{y c}e=>by
  rw[gH] at e;rcases KM ϴ with M|⟨_,h2,h3⟩
  .exact .inl (cm M)
  .rw[qw] at h2;exact .inr ⟨h2,h3⟩
 let look:∀{y},scope.names.Q y=Α .free->∃c,F.cells.Q y=Α c/\X.env.cells.Q y=Α c:=λ{y}hl=>by
  let U:(y,NameKind.free)∈scope.names:=PySem.mem_of_lookup hl;let(c',J):=mem_lookup (T3 (names:=scope.names) (n:=(s.o {cls:=.type "dict",data:=.dict #[]}).O) (aei (cells:=X.env.cells) (acc:=[]) U));rw[<-gH] at J;apply(c',J,?_);rw[gH] at J;rcases KM (PySem.mem_of_lookup J) with M|⟨j,_,_⟩
  .exact(cm M).1
  .let:=ok.uniq _ j;rw[hl] at this;cases this
 let okB:(X.gS s H scope F fp).Ok:=by
  refine⟨I.ok.mod,by show F.scope.kind=_;rw[KN];exact ok.kind,by show F.globals=_;rw[<-hcenv];exact I.ok.glob,by show F.builtins=_;rw[<-hcenv];exact I.ok.blt,by show s.Z<=F.locals;rw[hL];exact bA _,
   λy z c W Y=>?_,λy U=>?_,λy c z e=>?_,I.ok.hd,I.ok.frames,.inl rfl,λb Z=>⟨?_,λy c e z=>?_⟩,I.bs,gn I.ok.rP I.sz,λb o e Z=>?_,λb Z z=>?_,I.stack,I.Fz⟩
  .let W:F.cells.Q y=Α c:=W;let Y:F.cells.Q z=Α c:=Y;rw[gH] at W Y;apply aek (λp hp=>?_) (λy z c a b=>I.ok.inj y z c (cm a).1 (cm b).1) (PySem.mem_of_lookup W) (PySem.mem_of_lookup Y);rw[qw];exact Fl (cm (y:=p.1) (c:=p.2) hp).2
  .show ∃c,F.cells.Q y=Α c;let hZ:∀k,F.kindOf y=Α k->(k=.cell\/k=.free)->∃c,F.cells.Q y=Α c:=λk hk l8=>by
    delta Env.kindOf at hk;rw[KN] at hk;let(k',e,r):=T4 hk;let:k'=.cell\/k'=.free:=by
     rcases r with rfl|⟨rfl,_⟩
     .exact l8
     .exact .inr Á
    rcases this with rfl|rfl
    .let(c,M):=aej (n:=(s.o {cls:=.type "dict",data:=.dict #[]}).O) (acc:=Ŷ []) ϴ;let(c',J):=mem_lookup M;exact(c',by rw[gH];exact J)
    .let(c,j,_):=look e;exact(c,j)
   rcases U with U|U
   .exact hZ _ U ĝ
   .exact hZ _ U Ép
  .let z:(scope.names.Q y==Α NameKind.cell)=true:=z;let z:scope.names.Q y=Α .cell:=by simpa using z
   let e:F.cells.Q y=Α c:=e;rw[gH] at e;rcases KM ϴ with M|⟨_,h2,_⟩
   .rcases TZ M with M|⟨j,_⟩
    .cases M
    .let q:=ok.uniq _ j;rw[z] at q;cases q
   .rw[qw] at h2;exact RG h2
  .show b≠F.locals;rw[hL];exact fU (w8 b Z).2
  .let e:F.cells.Q y=Α c:=e;rcases mem e with ⟨j,_⟩|⟨j,_⟩
   .exact(w8 b Z).1.2.2.2.2.1 y c j z
   .let h2:s.Z+1<=b:=by rw[<-z];exact j
    exact absurd (j3 (w8 b Z).2 (RG h2)) (nq _)
  .rcases(w8 b Z).1.2.2.2.1 with z|z
   .exact I.ok.Ad b o e z
   .exact absurd (j3 (dh e) (gn I.ok.rP z)) (nq _)
  .rcases a8.mp (I.J4 b z) with z|z
   .exact(w8 b Z).1.2.1 z
   .exact(w8 b Z).1.2.2.1 z
 apply(okB,Á,I.bare,Un.kept kp,⟨λ_=>none,?_,λi y av W Y O=>?_⟩,λy c e=>?_,?_,λy c e=>?_,λp hp=>?_,I.aD.kept kp,by rw[T5];exact I.len)
 .show Heap.Ns _ F.locals _;rw[hL];exact Heap.Ns.keeps (Heap.Ns.new ..) λb o e=>RF _ _ _ _ e
 .let(Y,aL):=T6 Y;let qH:scope.names.Q y=Α .free/\(F.kindOf y=Α .cell\/F.kindOf y=Α .free):=by
   let hZ:∀k,F.scope.names.Q y=Α k->k=.local\/k=.cell\/k=.free->scope.names.Q y=Α .free/\(F.kindOf y=Α .cell\/F.kindOf y=Α .free):=λk hk l8=>by
    let T7:=hk;rw[KN] at hk;let(k',e,r):=T4 hk;let no:¬(k'=.local\/k'=.cell):=λhh=>by
     rcases ok.own _ ϴ hh with J|J
     .let(p,hp,hpy):=bG.mp J;let O:=ok.ix p hp;let:p.1=y:=hpy;rw[this] at O;exact aL (bG.mpr ⟨p,hp,J8 hN O W⟩)
     .exact J (bj W)
    rcases r with rfl|⟨rfl,rfl⟩
    .rcases l8 with rfl|rfl|rfl
     .exact absurd ĝ no
     .exact absurd Ép no
     .exact(e,.inr T7)
    .exact(e,.inl T7)
   let O:yp F.scope y:=O;rcases O with O|O|O
   .exact hZ _ O ĝ
   .exact hZ _ O (.inr ĝ)
   .exact hZ _ O (.inr Ép)
  let(m,hn,hl):=I.loc;let aep:yp X.env.scope y:=(ok.free _ (PySem.mem_of_lookup qH.1) rfl).elim (λk=>.inr (.inl k)) (λk=>.inr (.inr k));let(w,r,q):=hl i y av W Y aep;apply(w,r,.inr ⟨qH.2,?_⟩);let(c,j,h2):=look qH.1;rcases q with ⟨k,_⟩|⟨_,c',J,z⟩
  .let k:X.env.scope.names.Q y=Α .local:=k;rcases ok.free _ (PySem.mem_of_lookup qH.1) rfl with k'|k' <;> rw[show X.env.scope.names.Q y=_ from k'] at k <;> cases k
  .rw[h2] at J;cases J;exact(c,j,z.keeps kp)
 .let e:F.cells.Q y=Α c:=e;rcases mem e with ⟨j,_⟩|⟨_,z⟩
  .let(w,z):=I.cell y c j;exact(w,z.keeps kp)
  .exact(_,z)
 .show H F.locals=Β;rw[hL];exact I.aD.fresh (bA _)
 .let e:F.cells.Q y=Α c:=e;rcases mem e with ⟨j,_⟩|⟨j,_⟩
  .exact I.nu y c j
  .exact I.aD.fresh (RG j)
 .exact absurd (show p∈([]:cb)++[] from hp) Ä
def aeq(I:Ã H s)(j:H D=Α Àp)(hz:xs.L<sizeLine)(r:RelV y v)(h:∀s',Ã (upd H D (.lst (xs++[y]))) s'->Q .none s'):wpAny È X.A (call (.builtin "list.append") [.ref D,v]) Q E s:=by
 let(U,F,n,z,e):=I.aD D _ j;let W:=z.L;apply append_at (hsz:=by simp_all) e λh' M O=>?_;apply h {s with heap:=h'} (I.write (t':=s.toks) (by rw[j];trivial) ĝ (λb u J q=>(M.2 b J).R q) ⟨_,O⟩ ⟨by grind,F++[v],n+1,z.append (.cons r .nil),?_⟩);symm
def yF(X:Cx)(j:List Expr)(t:TT):Prop:=
 ∀(pins:cb)(s:Sh)(σ:St)(H:Hp)(Q:Bool->Hp->Prop),Ã H s->t σ H Q->
  wpAny È X.A (forIn j true λc r=>if r=true then do let ok <-isTrue c X.env (eval c X.env);pure (ForInStep.yield ok) else pure (ForInStep.yield r)) Ãj X.xe s
def CO:TT:=λ_ H Q=>Q true H
def eG:yF X [] CO:=λ_ _ _ H _ I h=>wpAny_tests_nil ⟨H,I,h⟩
def oE(h:PT X c t):yF X [c] t:=λpins s σ H Q I hw=>wpAny_tests_one Ãf
end
def CU(h:ϐ t Q Äo s)(j:∀a s,Q a s->Q' a s):ϐ t Q' E s:=jD h j λ_ _ z=>False.elim z
def aer(I:Nat->Shared->Prop)(turn:∀n s,I n s->wpAny Í A (pyNext it) (λr z=>match r with
   |none=>R (.ok .next) z
   |some v=>wpAny Í A (letOwnedTupleGo E9 it v) (λ_ j=>wpAny Í A (assign E9 env v) (λ_ O=>
     wpAny Í A (forIn j0 true λc r=>if r=true then do let ok <-isTrue c env (eval c env);pure (ForInStep.yield ok) else pure (ForInStep.yield r)) (λok F=>
      if ok=true then wpAny Í A (eval lW env) (λx U=>
       wpAny Í A (call (.builtin "list.append") [acc,x]) (λ_ W=>∃m,m<n/\I m W) (notedBy Í A env λe s'=>R Ϯ s') U) (notedBy Í A env λe s'=>R Ϯ s') F
      else ∃m,m<n/\I m F) (notedBy Í A env λe s'=>R Ϯ s') O) (notedBy Í A env λe s'=>R Ϯ s') j) (notedBy Í A env λe s'=>R Ϯ s') z) (notedBy Í A env λe s'=>R Ϯ s') s)
  (n:Nat) (h:I n s):
  codeAny Í A (.compLoop (.ListComp lW [⟨E9,iter,j0,0⟩] scope pos) 0 it acc env) R s:=by
 apply codeAny_loop Á I (λn s Y=>?_) n h;show wpAny _ A ((compTurn (.ListComp lW [⟨E9,iter,j0,0⟩] scope pos) 0 it acc env).onRaise (λx=>do noteFrame x env;theTreesLotGoes x)) _ _ s;apply wpAny_noted ?_;rw[compTurn_list];apply aF (RH (aF (jD (turn n s Y) (λr z J=>?_) λ_ _ h'=>h')));cases r with
 |none=>exact cV J
 |some v=>
  apply aF (jD J (λ_ j q=>?_) λ_ _ h'=>h');apply aF (jD q (λ_ O Z=>aF (jD Z (λok F M=>?_) λ_ _ h'=>h')) λ_ _ h'=>h');cases ok with
  |false=>exact cV ⟨Á,M⟩
  |true=>
   exact aF (aF (jD M (λx U h₄=>aF (jD h₄ (λ_ W h₅=>cV (cV ⟨Á,h₅⟩)) λ_ _ h'=>h')) λ_ _ h'=>h'))
inductive lh(D:Addr)(N:Hp->Prop)(y:V)(H:Hp):Prop
 |mk (acc:ay) (_:H D=Α (.lst acc)) (_:acc.L<sizeLine) (_:N (upd H D (.lst (acc++[y]))))
def CW(z:TI)(g:TG)(tt:TT)(te:TE)(vs:LN):TE:=λσ H Q=>z σ H λJ H1=>∀D,H1 D=Β->∃W:Nat->Nat->Hp->Prop,(∃m,W 0 m Đ)/\∀i m H,W i m H->
 (J.stop i H/\Q ϔ H)\/(J.go i H/\∃Nx:Hp->Prop,(∀H',Nx H'->∃M,M<m/\W (i+1) M H')/\∀x H',J.ou i H x H'->g x ľ H' λσ2 q=>wipe σ2 vs=wipe σ vs/\tt σ2 q λb j=>
  if b=true then te σ2 j Æn else Nx j)
def T8{Ex:VP}{Eb:Cx->VP}(hc:X.calm=true) (hN:X.N.Nodup) (I:Ã H s) (hi:PI (X.i5 Ex) tg iter wi) (ok:ĵ own)(hg:∀(s:Sh)(H:Hp)(C:Addr)(cl:gr)(fp:LA),PG Ó tg g) (ht:∀(s:Sh)(H:Hp)(C:Addr)(cl:gr)(fp:LA),yF Ó j0 tt)(he:∀(s:Sh)(H:Hp)(C:Addr)(cl:gr)(fp:LA),PE ((X.gS s H scope Áh fp).i5 (Eb Ó)) lW te) (hs:∀x,foldedSetIterable iter X.env x=pure x)(h:CW wi g tt te (own.M (·.2)) σ H Q)(hRR:∀D C s' m H',Ã H' s'->Q ϔ H'->s'.H.Ns C m->ň H' C->compPost È X.A Ex use Qf ϔ C (.ok .next) s')(hX:∀s3 H3 cl fp D e s',Ã H3 s3->(∀b∈fp,ň H3 b/\b<s3.Z)->Eb (X.gS s3 H3 scope Ĭ fp) e s'->notedBy È X.A Ĭ (λe=>compPost È X.A Ex use Qf ϔ s3.Z Ϯ) e s'):
  wpAny È X.A (comprehension â scope X.env mz (newList []) false (eval iter X.env) use) Qf Ex s:=by
 let FA:∀y∈scope.names,y.2=.free->∃c,X.env.cells.Q y.1=Α c:=λy hy e=>by
  rcases ok.free y hy e with k|k
  .exact I.ok.has _ (.inl k)
  .exact I.ok.has _ (.inr k)
 refine wpAny_comprehension_free (use:=use) Á hs (aeg FA) ok.kind (λy hy e=>by rw[ok.uniq y hy,e])
  (aP (hi pins s σ H _ (I.i5 _) h) λxv s1 hx=>aP hx λKg s2 h2=>?_)
 let(it,fp,tn,J,H2,e,I2,T,FL,f2,q):=h2;let I2:=I2.nB;subst e;apply Jx (ael ?_) (by show 0<=sizeLine;decide);generalize hD:s2.Z=D;let hDn:H2 D=Β:=I2.aD.fresh (Fe hD);let(W,(m0,w0),turn):=q D hDn;generalize KO:({s2 with heap:=s2.o {cls:=.type "list",data:=.seq ([]:LV).toArray}}:Sh)=s3;let I3:Ã Ám s3:=by
  rw[<-KO];apply I2.laid (t':=s2.toks) Æf (Fe hD) ⟨di _,[],0,.nil,?_⟩;rw[<-hD];exact ia _ Á
 let h3:s3.H=s2.o {cls:=.type "list",data:=.seq ([]:LV).toArray}:=by rw[<-KO]
 let sz:∀b∈fp,b<s2.Z:=λb F=>by
  let(o,e,_):=T.obj _ _ FL b F;exact dh e
 let M:∀b∈fp,ň Ám b/\b<s3.Z:=λb F=>by
  let bO:=sz b F;apply(⟨?_,(f2 b F).2⟩,by rw[h3,qw];exact Fl bO);rw[az (by grind)];exact(f2 b F).1
 let FM:tn 0 s3.H:=T.keep _ _ _ FL λb _ o e=>by rw[h3];exact du _ e
 let I4:=aem I3 ok hN M;let pg:=hg s3 Ám s3.Z ê fp;let pt:=ht s3 Ám s3.Z ê fp;let pe:=he s3 Ám s3.Z ê fp;show codeAny _ _ (.compStart â 0 Ãq ϔ (compEnvC scope ê s3.Z X.env)) (compPost È X.A Ex use Qf ϔ s3.Z) {s3 with heap:=pushCells (s3.o {cls:=.type "dict",data:=.dict #[]}) scope.names};let T9:∀b∈fp,(Ám) b=Β:=λb F=>(M b F).1.1;generalize l9:compEnvC scope ê s3.Z X.env=ce at I4 pg pt pe⊢;let cL:ce.locals=s3.Z:=by subst l9;rfl
 generalize hH3:upd H2 D ã=H3 at I3 I4 pg pt pe w0 T9 M;generalize hs4:({s3 with heap:=pushCells (s3.o {cls:=.type "dict",data:=.dict #[]}) scope.names}:Sh)=s4 at I4⊢;let Ua:tn 0 s4.H:=T.keep _ _ _ FM λb _ o e=>by rw[<-hs4];exact RF _ _ _ _ (du _ e)
 let yx:∀{σ':St}{H':Hp}{s':Sh},Inv ĥ [] σ' H' s'->(∀b∈fp,H' b=Β)->∀b∈fp,nE ĥ [] H' b:=λ{σ' H' s'}U Z b F=>
  ⟨Z b F,(U.ok.Cf b F).1,U.ok.Ae b F,.inl F,λx c e=>(U.ok.Cf b F).2 x c e,λp hp=>absurd (show p∈([]:cb)++[] from hp) Ä⟩
 let aaQ:codeAny È X.A (.compLoop â 0 Ãq ϔ ce) (compPost È X.A Ex use Qf ϔ s3.Z) s4:=by
  apply aer (λn s'=>∃i H',Inv ĥ [] (wipe σ (own.M (·.2))) H' s'/\tn i s'.H/\(∀b∈fp,H' b=Β)/\W i n H') ?_ m0 ⟨0,H3,I4,Ua,T9,w0⟩;rintro n s5 ⟨i,O,I5,Ah,n5,w5⟩;rcases turn i n O w5 with ⟨stop,qq⟩|⟨go,Nx,hNx,step⟩
  .let td:=T.done ĥ rfl rfl rfl hc i [] s5 _ O Äo I5 (yx I5 n5) Ah stop;apply CU td λr s6 ⟨hr,Y⟩=>?_;subst hr;let I7:Ã O s6:=I3.wM (ch:=fp) Y.os Y.base Y.aD Y.bare λb F=>⟨(M b F).1.2.2.2.1,(M b F).1.2.1,(M b F).1.2.2.2.2.1,(M b F).1.2.2.2.2.2⟩;let nC:O s3.Z=Β:=by
    let z:O ce.locals=Β:=Y.free;rw[cL] at z;exact z
   let(m,Z,_):=Y.loc;let Z:s6.H.Ns ce.locals m:=Z;rw[cL] at Z;exact hRR D s3.Z s6 m O I7 qq Z (I3.wO (bA _) nC)
  .let ti:=T.item ĥ rfl rfl rfl hc i [] s5 _ O Äo I5 (yx I5 n5) Ah go;apply CU ti λr s6 ⟨u,hr,h6⟩=>?_;subst hr;apply CU h6 λ_ s7 ⟨x,H7,I7,r7,y7,KP,n7⟩=>?_;let I7':=I7.pinned (yx I7 n7) (T.obj _ _ KP);apply CU (pg _ s7 _ H7 x u _ I7' r7 (step x H7 y7)) λ_ s8 ⟨σ8,H8,I8,F3,q8⟩=>?_;apply CU (pt _ s8 σ8 H8 _ I8 q8) λb s9 ⟨H9,I9,q9⟩=>?_;let fin:∀{s':Sh}{H':Hp},Inv ĥ ([]++Cr fp s7.H) σ8 H' s'->Nx H'->∃m,m<n/\∃i H',Inv ĥ [] (wipe σ (own.M (·.2))) H' s'/\tn i s'.H/\(∀b∈fp,H' b=Β)/\W i m H':=λ{s' H'}U nx=>by
    let(m',hm,w'):=hNx H' nx;let Ub:∀b∈fp,∀o,s7.U b=Α o->s'.U b=Α o/\H' b=Β:=λb F o e=>
     let z:=U.pin (b,o) (rG _ (rG _ (Kh F e)))
     ⟨z.1,z.2.1⟩
    let hl:(wipe σ (own.M (·.2))).L=σ8.L:=by rw[<-F3,T5]
    apply(m',hm,i+1,H',(U.FK (pins:=[])).weak hl (λj v e=>?_),T.keep _ _ _ KP λb F o e=>(Ub b F o e).1,λb F=>?_,w')
    .rw[<-F3] at e;exact(T6 e).1
    .let(o,e,_):=T.obj _ _ KP b F;exact(Ub b F o e).2
   cases b with
   |false=>
    simp only[RI,RJ] at q9⊢;exact fin I9 q9
   |true=>
    simp only[Fk] at q9⊢;exact jD (pe _ s9 σ8 H9 _ (I9.i5 _) q9) (λz ma ⟨yv,F4,I10,r10,acc,aey,aez,nx⟩=>aeq (X:=X.gS s3 H3 scope ce fp) I10.nB aey aez r10 λmd w9=>fin w9 nx) λe ma hz=>l9▸ hX s3 H3 _ fp D e ma I3 M (l9▸ hz)
 exact codeAny_compStart_list aaQ (T.self X.A 0 _ _ _ Ua aaQ)
def eA(hc:X.calm=true)(W:X.N.Nodup)(hi:PI X tg iter wi)(ok:ĵ own)(hg:∀(s:Sh)(H:Hp)(C:Addr)(cl:gr)(fp:LA),PG Ó tg g) (ht:∀(s:Sh)(H:Hp)(C:Addr)(cl:gr)(fp:LA),yF Ó j0 tt)(Z:∀(s:Sh)(H:Hp)(C:Addr)(cl:gr)(fp:LA),PE Ó lW te) (hs:∀x,foldedSetIterable iter X.env x=pure x:=by intro _;rfl):
  PE X â (CW wi g tt te (own.M (·.2))):=by
 show Ú;rw[eval_ListComp];apply T8 (Ex:=X.xe) (Eb:=λ_ _ _=>False) hc W I hi ok hg ht Z hs h (λD C s' m H' j q hn f=>⟨m,hn,λqI sb=>?_⟩) λ_ _ _ _ _ _ _ _ _ z=>z.elim;let(F,J,f2,M,O,U):=f;exact(.ref D,H',j.turned (t':=s'.toks) (λb o Y e=>(sb.2 b Y).R e) F J M O U,Á,q)
def Uc{Ex:VP}{Eb:Cx->VP}(hc:X.calm=true)(F:X.N.Nodup)(hy:X.N[i]? =Α y)(J:X.env.scope.names.Q y=Α .local)(M:swapsWith â (some (.Name y py)) xb.line X.env=pure true) (hi:PI (X.i5 Ex) tg iter wi) (ok:ĵ own)(hg:∀(s:Sh)(H:Hp)(C:Addr)(cl:gr)(fp:LA),PG Ó tg g) (ht:∀(s:Sh)(H:Hp)(C:Addr)(cl:gr)(fp:LA),yF Ó j0 tt)(he:∀(s:Sh)(H:Hp)(C:Addr)(cl:gr)(fp:LA),PE ((X.gS s H scope Áh fp).i5 (Eb Ó)) lW te) (hs:∀x,foldedSetIterable iter X.env x=pure x) (hX:∀{use:Option (Value->Sem Unit)}{Qf:VP}pins σ s3 H3 cl fp D e s',Ã H3 s3->(∀b∈fp,ň H3 b/\b<s3.Z)->Eb (X.gS s3 H3 scope Ĭ fp) e s'->notedBy È X.A Ĭ (λe=>compPost È X.A Ex use Qf ϔ s3.Z Ϯ) e s'):
  PS (X.i5 Ex) (.Assign [.Name y py] â xb) (Ag (CW wi g tt te (own.M (·.2))) (qC i)):=by
 intro pins s σ H D I h;rw[exec_Assign_Name_used _ _ _ _ M];apply aF (RH (aF ?_));let h:=h;apply aF (aP (T8 (X:=X) (Eb:=Eb) (Qf:=λ_ s'=>SP (X.i5 Ex) pins D .next s') hc F I.nB hi ok hg ht he hs h (λL C s' m H' O q hn f=>?_) (hX pins σ)) λ_ s' hq=>cV (cV hq));apply wpAny_assign_Name (So (v:=V.ref L) O F hy (.inl J) Á (λs2 U ⟨a,sb,ha⟩=>?_) (.inr J));let(W,Y,f2,Z,f4,f5):=f;let j:C≠a:=by
  grind
 apply(m,hn.sameBut sb j,λh3 z=>?_);exact(_,H',(U.turned (t':=s2.toks) (λb o hb e=>(z.2 b hb).R e) W Y Z f4 f5).i5 _,q)
def tQ(hc:X.calm=true)(q:X.N.Nodup)(O:X.N[i]? =Α y)(U:X.env.scope.names.Q y=Α .local)(j:swapsWith â (some (.Name y py)) xb.line X.env=pure true) (hi:PI X tg iter wi) (ok:ĵ own)(J:∀(s:Sh)(H:Hp)(C:Addr)(cl:gr)(fp:LA),PG Ó tg g) (M:∀(s:Sh)(H:Hp)(C:Addr)(cl:gr)(fp:LA),yF Ó j0 tt)(F:∀(s:Sh)(H:Hp)(C:Addr)(cl:gr)(fp:LA),PE Ó lW te) (hs:∀x,foldedSetIterable iter X.env x=pure x:=by intro _;rfl):
  PS X (.Assign [.Name y py] â xb) (Ag (CW wi g tt te (own.M (·.2))) (qC i)):=by
 exact Uc (Ex:=X.xe) (Eb:=λ_ _ _=>False) hc q O U j hi ok J M F hs λ_ _ _ _ _ _ _ _ _ _ _ z=>z.elim
def CZ{lo:Int}{n:Nat}{g:TG}{tt:TT}{te:TE}{vs:LN}{σ:St}{H1:Hp}{D:Addr}{Qd:Hp->Prop}(j:Nat->Hp->Prop)(J:j 0 Đ)(hs:∀i H,i<n->j i H->g (.int (lo+i)) ľ H λσ2 z=>wipe σ2 vs=wipe σ vs/\tt σ2 z λb q=>
   if b=true then te σ2 q (lh D (j (i+1))) else j (i+1) q) (hd:∀H,j n H->Qd H):
  ∃W:Nat->Nat->Hp->Prop,(∃m,W 0 m Đ)/\∀i m H,W i m H->
   ((yw lo n).stop i H/\Qd H)\/((yw lo n).go i H/\∃Nx:Hp->Prop,(∀H',Nx H'->∃M,M<m/\W (i+1) M H')/\∀x H',(yw lo n).ou i H x H'->g x ľ H' λσ2 z=>wipe σ2 vs=wipe σ vs/\tt σ2 z λb q=>
    if b=true then te σ2 q Æn else Nx q):=by
 apply(λi m H=>m=n-i/\i<=n/\j i H,⟨n,by simp,di _,J⟩,?_);rintro i m H ⟨rfl,hi,p⟩;by_cases F:i<n
 .apply .inr ⟨F,j (i+1),λH' O=>⟨n-(i+1),by omega,rfl,F,O⟩,λx H' y=>?_⟩;let(e,y):=y;symm
 .let e:i=n:=by omega
  subst e;exact .inl ⟨bA _,hd H p⟩
def fV{K:FR}{a:Addr}{xs:ay}{g:TG}{tt:TT}{te:TE}{vs:LN}{σ:St}{H1:Hp}{D:Addr}{Qd:Hp->Prop}(j:Nat->Hp->Prop)(O:j 0 Đ)(U:∀i H,i<=xs.L->j i H->ä a xs)(hs:∀i x H,xs[i]? =Α x->j i H->g x ľ H λσ2 F=>wipe σ2 vs=wipe σ vs/\tt σ2 F λb z=>
   if b=true then te σ2 z (lh D (j (i+1))) else j (i+1) z) (hd:∀H,j xs.L H->Qd H):
  ∃W:Nat->Nat->Hp->Prop,(∃m,W 0 m Đ)/\∀i m H,W i m H->
   ((wQ K a).stop i H/\Qd H)\/((wQ K a).go i H/\∃Nx:Hp->Prop,(∀H',Nx H'->∃M,M<m/\W (i+1) M H')/\∀x H',(wQ K a).ou i H x H'->g x ľ H' λσ2 F=>wipe σ2 vs=wipe σ vs/\tt σ2 F λb z=>
    if b=true then te σ2 z Æn else Nx z):=by
 apply(λi m H=>m=xs.L-i/\i<=xs.L/\j i H,⟨xs.L,by simp,di _,O⟩,?_);rintro i m H ⟨rfl,hi,p⟩;let q:=U i H hi p;by_cases J:i<xs.L
 .apply .inr ⟨⟨xs,xs[i],q,by simp[J]⟩,j (i+1),λH' Y=>⟨xs.L-(i+1),by omega,rfl,J,Y⟩,λx H' y=>?_⟩;let(e,y):=y;subst e;exact hs i x _ (y xs q) p
 .let e:i=xs.L:=by omega
  subst e;exact .inl ⟨⟨xs,q,bA _⟩,hd H p⟩
def Ud(N:LS)(q j:Scope)(own:List (Str×Nat)):Bool:=
 (match j.kind with|.function=>true|_=>false)&&(j.names.all λy=>decide (j.names.Q y.1=Α y.2))&&(own.all λp=>decide (N[p.2]? =Α p.1))&&
  (j.names.all λy=>match y.2 with
   |.free=>(match q.names.Q y.1 with|some .cell=>true|some .free=>true|_=>false)
   |.local=>decide (y.1∈own.M (·.1))||decide (y.1∉N)
   |.cell=>decide (y.1∈own.M (·.1))||decide (y.1∉N)
   |_=>true)
def cY{N:LS}{M j:Scope}{own:List (Str×Nat)}(h:Ud N M j own=true):yE N M j own:=by
 delta Ud at h;simp only[jG,jH,lY] at h;let(((F,h2),O),J):=h;apply(?_,h2,O,λy z e=>?_,λy z e=>?_)
 .split at F
  .assumption
  .cases F
 .let q:=J y z;simp only[e] at q;split at q <;> first|exact .inl (by assumption)|exact .inr (by assumption)|cases q
 .let q:=J y z;rcases e with e|e <;> (simp only[e,Bool.or_eq_true,lY] at q;exact q)
section
variable{κ:Type}[DecidableEq κ]
def gJ(kvs:List (κ×V))(k:κ):Option V:=(kvs.find? λkv=>decide (kv.1=k)).M (·.2)
def putK(kvs:List (κ×V))(k:κ)(v:V):List (κ×V):=
 if (kvs.any λkv=>decide (kv.1=k))=true then kvs.M (λkv=>if kv.1=k then (kv.1,v) else kv) else kvs++[(k,v)]
def r9{p:κ×V}{r:List (κ×V)}{k:κ}(e:p.1=k):gJ (p::r) k=Α p.2:=by simp[gJ,lZ,e]
def sf{p:κ×V}{r:List (κ×V)}{k:κ}(e:¬p.1=k):gJ (p::r) k=gJ r k:=by simp[gJ,lZ,e]
theorem KQ(k:κ):∀kvs:List (κ×V),(kvs.any λkv=>decide (kv.1=k))=(gJ kvs k).isSome:=by
 intro kvs;induction kvs with
 |nil=>exact Á
 |cons p r j=>
  rw[va];by_cases e:p.1=k
  .simp only[r9 e,eP e,Bool.true_or,atF]
  .rw[sf e,gC e,RK];exact j
theorem aeC(k j:κ)(y:V):∀kvs:List (κ×V),gJ (kvs.M λkv=>if kv.1=k then (kv.1,y) else kv) j=(gJ kvs j).M λx=>if j=k then y else x:=by
 intro kvs;induction kvs with
 |nil=>exact Á
 |cons p r q=>
  let q:=q;rw[a7];by_cases h:p.1=k
  .rw[ah h];by_cases e:p.1=j
   .rw[r9 (p:=(p.1,y)) e,r9 e,JG,ah (e.symm.R h)]
   .rw[sf (p:=(p.1,y)) e,sf e,q]
  .rw[ag h];by_cases e:p.1=j
   .rw[r9 (p:=p) e,r9 e,JG,ag (λz=>h Èr)]
   .rw[sf (p:=p) e,sf e,q]
theorem aeD(k j:κ)(y:V):∀kvs:List (κ×V),gJ kvs k=Β->gJ (kvs++[(k,y)]) j=if j=k then some y else gJ kvs j:=by
 intro kvs;induction kvs with
 |nil=>
  intro _;by_cases e:k=j
  .rw[ah e.symm];exact r9 (p:=(k,y)) e
  .rw[ag (λz=>e z.symm)];exact sf (p:=(k,y)) e
 |cons p r F=>
  intro q;rw[List.cons_append];let hk:¬p.1=k:=λz=>by rw[r9 z] at q;cases q
  rw[sf hk] at q;let F:=F q;by_cases e:p.1=j
  .rw[r9 e,r9 e,ag (λz=>hk Èr)]
  .rw[sf e,sf e,F]
def aeE(kvs:List (κ×V))(k j:κ)(y:V):gJ (Ŕ y) j=if j=k then some y else gJ kvs j:=by
 ext putK;by_cases a:(kvs.any λkv=>decide (kv.1=k))=true
 .rw[ah a,aeC];rw[KQ] at a;by_cases e:j=k
  .let(x,q):=JB.mp a;symm
  .symm
 .rw[ag a];apply aeD k j y kvs ?_;rw[KQ] at a;symm
def C0(kvs:List (κ×V))(k:κ)(v:V):(Ŕ v).L<=kvs.L+1:=by
 ext putK;grind
theorem k8.KR(r:k8 o u):o.isSome=u.isSome:=by
 cases o with
 |none=>cases u with
  |none=>rfl
  |some _=>exact(show False from r).elim
 |some _=>cases u with
  |none=>exact(show False from r).elim
  |some _=>rfl
theorem k8.getD(r:k8 o u)(j:RelV d d'):RelV (o.D d) (u.D d'):=by
 cases o with
 |none=>cases u with
  |none=>exact j
  |some _=>exact(show False from r).elim
 |some _=>cases u with
  |none=>exact(show False from r).elim
  |some _=>exact r
theorem KV.val{kvs:List (κ×V)}{vs:List (κ×Value)}(r:KV kvs vs)(k:κ):k8 (gJ kvs k) (valueAt vs k):=by
 delta KV at r;induction r with
 |nil=>exact True.intro
 | @cons p q ps qs h t ih=>
  let(F,h2):=h;by_cases e:p.1=k
  .let j:q.1=k:=F.symm.R e;let b:valueAt (q::qs) k=Α q.2:=by simp[valueAt,lZ,j]
   rw[r9 e,b];exact h2
  .let j:¬q.1=k:=λz=>e (F.R z);let b:valueAt (q::qs) k=valueAt qs k:=by simp[valueAt,lZ,j]
   rw[sf e,b];exact ih
theorem KV.any(r:KV kvs vs)(k:κ):(kvs.any λkv=>decide (kv.1=k))=vs.any λkv=>decide (kv.1=k):=by
 delta KV at r;induction r with
 |nil=>rfl
 |cons h t j=>symm
def KV.KS(r:KV kvs vs)(k:κ)(j:RelV y u):
  KV (kvs.M λkv=>if kv.1=k then (kv.1,y) else kv) (vs.M λkv=>if kv.1=k then (kv.1,u) else kv):=by
 delta KV at r⊢;induction r with
 |nil=>exact .nil
 | @cons p q ps qs h t ih=>
  rw[a7,a7];apply .cons ?_ ih;lia
def KV.put(r:KV kvs vs)(k:κ)(j:RelV y u):KV (Ŕ y) (stored vs k u):=by
 ext putK stored;rw[r.any k];by_cases e:(vs.any λkv=>decide (kv.1=k))=true
 .rw[ah e,ah e];exact r.KS k j
 .rw[ag e,ag e];exact Paired.snoc r ⟨Á,j⟩
def KV.length{kvs:List (κ×V)}{vs:List (κ×Value)}(r:KV kvs vs):kvs.L=vs.L:=Paired.length r
end
theorem xc(r:RelV (kV k) u):(fw P w).is k u=true:=by
 cases k with
 |inl i=>let(t,e):=(show ∃t,u=Value.int i t from r);subst e;exact acy P w i t
 |inr x=>let(t,e):=(show ∃t,u=Value.str x t from r);subst e;exact acz P w x t
theorem aeF{P:Pg}{w:Wd}{ks:eM}:∀{U:LV},bp (ks.M kV) U->ItemsAre Ãg ks U:=by
 induction ks with
 |nil=>
  intro _ r;rw[mJ] at r;cases r;exact .nil
 |cons k ks j=>
  intro _ r;rw[a7] at r;cases r with
  |cons h t=>exact .cons (xc h) (j t)
abbrev KT(H:Hp):List (eM×V)->List (eM×Addr×Value)->Prop:=Paired λp q=>p.1=q.1/\H q.2.1=Α (.tup (p.1.M kV))/\RelV p.2 q.2.2
theorem KT.val{H:Hp}{kvs:List (eM×V)}{xs:List (eM×Addr×Value)}(r:KT H kvs xs)(k:eM):k8 (gJ kvs k) ((atKey xs k).M (·.2)):=by
 induction r with
 |nil=>exact True.intro
 | @cons p q ps qs h t ih=>
  let(F,_,h2):=h;by_cases e:p.1=k
  .let j:q.1=k:=F.symm.R e;let b:atKey (q::qs) k=Α q.2:=by simp[atKey,lZ,j]
   rw[r9 e,b];exact h2
  .let j:¬q.1=k:=λz=>e (F.R z);let b:atKey (q::qs) k=atKey qs k:=by simp[atKey,lZ,j]
   rw[sf e,b];exact ih
def KT.KS{H:Hp}{kvs:List (eM×V)}{xs:List (eM×Addr×Value)}(r:KT H kvs xs)(k:eM){y:V}{u:Value}(J:RelV y u):
  KT H (kvs.M λkv=>if kv.1=k then (kv.1,y) else kv) (xs.M (putAt k u)):=by
 induction r with
 |nil=>exact .nil
 | @cons p q ps qs h t ih=>
  rw[a7,a7];apply .cons ?_ ih;let(j,h2,F):=h;ext putAt;by_cases e:p.1=k
  .rw[ah e,ah (j.symm.R e)];exact(j,h2,J)
  .rw[ag e,ag (λz=>e (j.R z))];exact(j,h2,F)
def KT.put(r:KT H kvs xs)(k:eM)(z:H b=Α Âz)(j:RelV y u):
  KT H (Ŕ y) (storedH xs k b u):=by
 let e:(kvs.any λkv=>decide (kv.1=k))=(atKey xs k).isSome:=by
  rw[KQ,(r.val k).KR,Fm]
 ext putK storedH;rw[e];by_cases q:(atKey xs k).isSome=true
 .rw[ah q,ah q];exact r.KS k j
 .rw[ag q,ag q];exact Paired.snoc r ⟨Á,z,j⟩
def KT.keeps(r:KT H kvs xs)(j:∀b ys,H b=Α Æq->H' b=Α Æq):KT H' kvs xs:=
 Paired.oq r λ_ _ z=>⟨z.1,j _ _ z.2.1,z.2.2⟩
def Ue(ok:ķ h)(e:Rd H a u):Áj u:=e.ok ok
def yG(ok:ķ h)(e:Rd H a đ):kvs.L<=sizeLine/\(a==sysModules)=false/\∃vs,KV kvs vs/\h.DictOf Ãg a vs:=
 show gu P w H h a đ from Ue ok e
def C5(ok:ķ h)(e:H a=Α đ):kvs.L<=sizeLine/\(a==sysModules)=false/\∃vs,KV kvs vs/\h.DictOf Ãg a vs:=yG ok (.inl e)
def yH{ks:eM}(ok:ķ h)(e:H a=Α (.tup (ks.M kV))):(tupleKind Ãg).is h ks a:=by
 let(_,j,r,o,q,h2,n,z):=(show gu P w H h a (.tup (ks.M kV)) from ok a _ e);exact(o,j.toArray,n,q,h2,z,by simpa using aeF r)
def yI{kvs:List (eM×V)}(ok:ķ h)(e:Rd H a Ãr):kvs.L<=sizeLine/\(a==sysModules)=false/\
  ∃xs,KT H kvs xs/\h.DictOfH Èd a xs:=by
 let(z,y,xs,r,o,es,ep,F,h2,J,M,O):=(show gu P w H h a Ãr from Ue ok e);apply(z,y,xs,r,o,es,ep,F,h2,J,M,λx j=>?_,O);let all:∀{l:List (eM×V)}{m:List (eM×Addr×Value)},KT H l m->∀x∈m,(tupleKind Ãg).is h x.1 x.2.1:=by
  intro l m q;induction q with
  |nil=>intro x j;exact nomatch j
  | @cons p q ps qs hq t ih=>
   intro x j;rcases a8.mp j with e|j
   .subst e;exact yH ok (by rw[<-hq.1];exact hq.2.1)
   .exact ih x j
 exact all r x j
def aeG(ok:ķ h)(e:H a=Α Ãr):kvs.L<=sizeLine/\(a==sysModules)=false/\
  ∃xs,KT H kvs xs/\h.DictOfH Èd a xs:=yI ok (.inl e)
def lj(H:Hp)(a:Addr)(y:V)(r:Option V):Prop:=
 (∃kvs k,Rd H a đ/\y=kV k/\r=gJ kvs k)\/∃kvs k b,Rd H a Ãr/\y=.ref b/\H b=Α Âz/\r=gJ kvs k
def xf(H:Hp)(a:Addr)(y v:V)(H':Hp):Prop:=
 (∃kvs k,H a=Α đ/\y=kV k/\kvs.L<sizeLine/\H'=upd H a (.dK (Ŕ v)))\/
 ∃kvs k b,H a=Α Ãr/\y=.ref b/\H b=Α Âz/\kvs.L<sizeLine/\H'=upd H a (.dT (Ŕ v))
def lj.k{H:Hp}{a:Addr}{kvs:List (Key×V)}{k:Key}(e:H a=Α đ):lj H a (kV k) (gJ kvs k):=.inl ⟨kvs,k,.inl e,rfl,rfl⟩
def lj.t{H:Hp}{a b:Addr}{kvs:List (eM×V)}{k:eM}(e:H a=Α Ãr)(j:H b=Α Âz):lj H a (.ref b) (gJ kvs k):=.inr ⟨kvs,k,b,.inl e,rfl,j,rfl⟩
def xf.k{H:Hp}{a:Addr}{kvs:List (Key×V)}{k:Key}{v:V}(e:H a=Α đ)(j:kvs.L<sizeLine):xf H a (kV k) v (ŭ (.dK (Ŕ v))):=.inl ⟨kvs,k,e,rfl,j,rfl⟩
section
variable{X:Cx}{pins:cb}{σ:St}{H:Hp}{s:Sh}{a:Addr}{y v:V}{u r:Value}{o:Option V}{A:Around}{E:VP}
def Inv.big(I:Ã H s):sysModules<s.Z:=by
 let h:mainGlobals<s.Z:=(I.mod.glob.keeps I.bk).lt;exact JH Ñ h
def aeH(Y:A.units+1<cLine)(I:Ã H s)(g:lj H a y Åo)(M:RelV y u)(h:∀W s',Ã H s'->RelV v W->Q W s'):
  wpAny È A (getItem ħ u) Q E s:=by
 rcases g with ⟨kvs,k,e,j,l⟩|⟨kvs,k,b,e,j,O,l⟩
 .subst j;let(z,hd,vs,F,dd):=yG I.aD e;let(W,q,J):=k8.some_of (v:=v) (o:=valueAt vs k) (by rw[l];exact F.val k);exact wpAny_getItem_of (xc M) dd.mapOf q (h W _ (I.tok _) J)
 .subst j;cases (show u=Value.ref b from M);let(z,hd,xs,F,dd):=yI I.aD e;let(W,q,J):=k8.some_of (v:=v) (o:=(atKey xs k).M (·.2)) (by rw[l];exact F.val k);let(p,U,qz):=u0.mp q;apply wpAny_getItem_heap (Fn Y) (yH I.aD O) dd U ?_;rw[qz];exact h W _ (I.tok _) J
def aeI(O:A.units+1<cLine)(I:Ã H s)(g:lj H a y o)(J:RelV y u)(h:∀s',Ã H s'->Q (.bool (!o.isSome)) s'):
  wpAny È A (compareOp .NotIn u ħ) Q E s:=by
 rcases g with ⟨kvs,k,e,j,l⟩|⟨kvs,k,b,e,j,M,l⟩
 .subst j;let(z,hd,vs,F,dd):=yG I.aD e;apply wpAny_notIn_of (xc J) hd dd.mapOf ?_;rw[<-(F.val k).KR,<-l];exact h _ (I.tok _)
 .subst j;cases (show u=Value.ref b from J);let(z,hd,xs,F,dd):=yI I.aD e;apply wpAny_notIn_heap (Fn O) (yH I.aD M) hd dd ?_;let q:=(F.val k).KR;rw[Fm] at q;rw[<-q,<-l];exact h _ (I.tok _)
def KU{h':Heap}{t':Nat}{O:HO}(I:Ã H s)(M:vi (H a))(hs:Heap.SameBut a s.H h')(F:∃q,h'.I a=Α q)(new:Àf (ŭ O) h' a O):
  Inv X pins σ (ŭ O) {s with heap:=h',toks:=t'}:=
 I.write (x:=a) (e:=a) M (.inl rfl) (λb q j z=>(hs.2 b j).R z) F new
def Ug(z:kvs.L<=sizeLine)(hd:(a==sysModules)=false)(F:KV kvs vs)(dd:h'.DictOf Ãg a vs):
  gu P w H' h' a đ:=⟨z,hd,vs,F,dd⟩
def aeJ{H':Hp}{Q:Unit->Shared->Prop}(hu:A.units+1<cLine)(I:Ã H s)(g:xf H a y v H')(ry:RelV y u)(Z:RelV v r)(h:∀s',Ã H' s'->Q () s'):
  wpAny È A (setItem ħ u r) Q E s:=by
 rcases g with ⟨kvs,k,e,O,l,M⟩|⟨kvs,k,b,e,O,W,l,M⟩
 .subst O M;let(z,hd,vs,F,dd):=C5 I.aD e;let hz:vs.L<=sizeLine:=by rw[<-F.L];exact z
  let U:(Ŕ v).L<=sizeLine:=by let:=C0 kvs k v;lia
  apply wpAny_setItem_pairs (hsz:=hz) (xc ry) dd λh' J hs=>h _ ?_;let he:∃q,h'.I a=Α q:=let ⟨q,_,_,j,_⟩:=J;⟨q,j⟩;exact KU I (by rw[e];exact True.intro) hs he (Ug U hd (F.put k Z) J)
 .subst O M;cases (show u=Value.ref b from ry);let(z,hd,xs,F,dd):=aeG I.aD e;let hz:xs.L<=sizeLine:=by rw[<-Paired.length F];exact z
  let U:(Ŕ v).L<=sizeLine:=by let:=C0 kvs k v;lia
  apply wpAny_setItem_heap (hsz:=hz) (Fn hu) (yH I.aD W) dd λh' J hs=>h _ ?_;let(q,es,ep,j,h2,h3,h4,_,h5):=J;apply KU I (by rw[e];exact True.intro) hs ⟨q,j⟩ ⟨U,hd,_,(F.put k W Z).keeps λc ys Y=>?_,q,es,ep,j,h2,h3,h4,h5⟩;rw[az (Sm Y e (λz=>nomatch z))];exact Y
end
section
variable{X:Cx}{pins:cb}{σ:St}{H:Hp}{s:Sh}{a:Addr}{kvs:List (Key×V)}{k:Key}{u:Value}{A:Around}{E:VP}
end
def Uh(i:Expr):Prop:=∀O iv,subscripted i false O iv=operate [O,iv] (getItem O iv)
def aeK{prog:Pg}{w:Wd}{A:Around}{E:VP}{s:Sh}{env:Env}{J W:Expr}{pos:Pos}{T id:String}{Q:VP}(O:typeLookup (.type T) "__getitem__"=pure (some ϖ)) (hs:Uh W)(h:wpAny Í A (eval J env) (λo F=>wpAny Í A (eval W env) (λi j=>j.TypeIs o T/\wpAny Í A (getItem o i) Q E j) E F) E s):
  wpAny Í A (eval (.Subscript J W pos) env) Q E s:=by
 apply Subscript_ (jD h (λo F U=>jD U (λi j q=>?_) λ_ _ x=>x) λ_ _ x=>x);let(z,q):=q;ext subscriptTail;apply aF ?_;rw[getitemInPython_of_ne z.not_modules];apply aF (wpAny_specialOf z O ?_);let fin:wpAny Í A (subscripted W false o i) (λr M=>wpAny Í A (letTemporaryGo J o r >>= λ_=>pure r) Q E M) E j:=by
  rw[hs o i];exact wpAny_operating (jD q (λr M Y=>aF (wpAny_letTemporaryGo (cV Y))) λ_ _ x=>x)
 first
  |exact cV (aF fin)
  |exact aF (cV (aF fin))
  |exact aF fin
def aeL(I:Ã H s)(g:lj H a y o):s.TypeIs ħ "dict":=by
 rcases g with ⟨kvs,k,e,_,_⟩|⟨kvs,k,b,e,_,_,_⟩
 .let(_,_,vs,_,dd):=yG I.aD e;exact dd.typeIs
 .let(_,_,xs,_,dd):=yI I.aD e;exact dd.typeIs
def Ui(td q:TE):TE:=λσ H Q=>td σ H λx H1=>q σ H1 λy j=>∃a v,x=.ref a/\lj j a y Åo/\Q v j
def aeM(q td:TE):TE:=λσ H Q=>q σ H λy H1=>td σ H1 λx j=>∃a o,x=.ref a/\lj j a y o/\Q (.bl (!o.isSome)) j
def aeN(td J F:TE):TS:=λD σ H=>F σ H λv H1=>td σ H1 λx q=>J σ q λy z=>∃a j,x=.ref a/\xf z a y v j/\D.nx σ j
def Uj(O:X.A.units+1<cLine)(M:PE X o td)(hi:PE X i ty)(hs:Uh i):PE X (.Subscript o i pos) (Ui td ty):=by
 show Ú;apply aeK PySem.F.slot_dict_getitem.lookup hs (aP (M pins s σ H _ I h) λu s1 ⟨x,H1,z,Z,W⟩=>aP (hi pins s1 σ H1 _ z W) λiv s2 ⟨y,q,j,ry,a,v,ex,g,Y⟩=>?_);subst ex;obtain rfl:u=Value.ref a:=Z;exact(aeL j g,aeH O j g ry λw' s3 J U=>⟨v,q,J,U,Y⟩)
def aeO(M:X.A.units+1<cLine)(hi:PE X i ty)(J:PE X o td):PC X .NotIn i o (aeM ty td):=by
 show Ú;apply aP (hi pins s σ H _ I h) λiv s1 ⟨y,H1,q,Z,U⟩=>aP (J pins s1 σ H1 _ q U) λu s2 ⟨x,j,z,Y,a,O,ex,g,W⟩=>?_;subst ex;obtain rfl:u=Value.ref a:=Y;exact aeI M z g Z λs3 F=>⟨.bl (!O.isSome),j,F,Á,W⟩
def F5(U:X.A.units+1<cLine)(O:PE X o td)(hi:PE X i ty)(W:PE X jA tv)(hs:swapsWith jA (some (.Subscript o i mz)) pos.line X.env=pure false):
  PS X (.Assign [.Subscript o i mz] jA pos) (aeN td ty tv):=by
 intro pins s σ H D I h;apply wpAny_Assign_Subscript (aP (W pins s σ H _ I h) λr s1 ⟨v,H1,z,rv,Y⟩=>aP (O pins s1 σ H1 _ z Y) λu s2 ⟨x,j,F,rx,Z⟩=>aP (hi pins s2 σ j _ F Z) λiv s3 ⟨y,H3,J,ry,a,q,ex,g,q3⟩=>?_) hs;subst ex;obtain rfl:u=Value.ref a:=rx;exact aeJ U J g ry rv λs4 M=>⟨σ,q,M,q3⟩
def aeP{P:Pg}{w:Wd}{H:Hp}(h:Heap)(j:sysModules<h.O):gu P w H (h.push {cls:=.type "dict",data:=.dict #[]}) h.O Ϥ:=
 ⟨di _,yi.mpr (eE (fU j)),[],.nil,aba h⟩
def aeQ:TE:=λ_ H Q=>∀p,H p=Β->Q Ĝ (upd H p Ϥ)
def C6:PE X (.Dict [] [] pos) aeQ:=λpins s σ H Q I h=>
 wpAny_Dict_empty ⟨.ref s.Z,_,I.laid (a:=s.Z) (o:=.dK []) (t':=s.toks) (λ_ _ q=>du _ q) (bA _) (aeP s.H I.big),rfl,h _ ġ⟩
def vA(kvs M:List (Key×V)):List (Key×V):=M.foldl (λacc kv=>putK acc kv.1 kv.2) kvs
theorem KV.merge:∀{M:List (Key×V)}{rs:List (Key×Value)}{kvs:List (Key×V)}{vs:List (Key×Value)},KV M rs->KV kvs vs->KV (vA kvs M) (merged vs rs):=by
 intro M rs kvs vs r;delta KV at r;induction r generalizing kvs vs with
 |nil=>intro q;exact q
 | @cons p q ps qs h t ih=>
  intro j;let e:KV (putK kvs p.1 p.2) (stored vs q.1 q.2):=by
   let:=j.put p.1 h.2;symm
  exact ih e
theorem aeR:∀(M kvs:List (Key×V)),(vA kvs M).L<=kvs.L+M.L:=by
 intro M;induction M with
 |nil=>
  intro kvs;show kvs.L<=kvs.L+0;symm
 |cons p r j=>
  intro kvs;let q:=j (putK kvs p.1 p.2);let h2:=C0 kvs p.1 p.2;show(vA (putK kvs p.1 p.2) r).L<=_;rw[dg];lia
structure M1(X:Cx)(o:Expr)(m:Str)(jf:Pos)(e:Expr)(gG:Pos):Prop where
 base:attributeBase o m X.env Åa=eval o X.env
 c6:((backTo gG (starEach [e] X.env)).all (λx=>!x.1)&&(backToKw gG Ϲ).all (λx=>x.1.isSome)
  &&decide (([e]:List Expr).L+([]:List Keyword).L+(if ([]:List Keyword).isEmpty then 0 else 1)<30))=true
 line:(jf.endLine==gG.line)=true
 trees:backTo gG (starEach [e] X.env)=[(false,eval e X.env)]
structure M2(X:Cx)(o:Expr)(m:Str)(jf:Pos)(e f:Expr)(gG:Pos):Prop where
 base:attributeBase o m X.env Åa=eval o X.env
 c6:((backTo gG (starEach [e,f] X.env)).all (λx=>!x.1)&&(backToKw gG Ϲ).all (λx=>x.1.isSome)
  &&decide (([e,f]:List Expr).L+([]:List Keyword).L+(if ([]:List Keyword).isEmpty then 0 else 1)<30))=true
 line:(jf.endLine==gG.line)=true
 trees:backTo gG (starEach [e,f] X.env)=[(false,eval e X.env),(false,eval f X.env)]
def F6(H:Hp)(a:Addr):Prop:=(∃kvs,Rd H a đ)\/∃kvs,Rd H a Ãr
def KW(I:Ã H s)(d:F6 H a):
  s.TypeIs ħ "dict"/\(∀b,Value.ref a=.ref b->∃O,s.U b=Α O/\O.dict=Β)/\(a==sysModules)=false:=by
 rcases d with ⟨kvs,e⟩|⟨kvs,e⟩
 .let(_,hd,vs,_,dd):=yG I.aD e;apply(dd.typeIs,λb q=>?_,hd);cases q;let(O,_,_,j,h2,_):=dd;exact(O,j,h2.2.1)
 .let(_,hd,xs,_,dd):=yI I.aD e;apply(dd.typeIs,λb q=>?_,hd);cases q;let(O,_,_,j,h2,_):=dd;exact(O,j,h2.2.1)
section
variable{X:Cx}{pins:cb}{σ:St}{H:Hp}{s:Sh}{a:Addr}{y d:V}{u r:Value}{o:Option V}{A:Around}{E:VP}
def aeS(O:A.units+1<cLine)(I:Ã H s)(g:lj H a y o)(J:RelV y u)(h:∀W s',Ã H s'->RelV (o.D .aO) W->Q W s'):
  wpAny È A (call (.builtin "dict.get") [.ref a,u]) Q E s:=by
 rcases g with ⟨kvs,k,e,j,l⟩|⟨kvs,k,b,e,j,M,l⟩
 .subst j;let(z,hd,vs,q,dd):=yG I.aD e;apply Fo PySem.F.slot_dict_get dd.typeIs PySem.F.entry_dict_get (PySem.F.args_dict_get_2 _ _) (meets_dict_get Č a (xc J) hd) ⟨_,dd.mapOf,h _ _ (I.tok _) ?_⟩;rw[l];exact(q.val k).D Á
 .subst j;cases (show u=Value.ref b from J);let(z,hd,xs,q,dd):=yI I.aD e;apply Fo PySem.F.slot_dict_get dd.typeIs PySem.F.entry_dict_get (PySem.F.args_dict_get_2 _ _) (meetsH_dict_get Ée a b hd) ⟨Fn O,k,xs,yH I.aD M,dd,h _ _ (I.tok _) ?_⟩;rw[l];exact(q.val k).D Á
def aeT(U:A.units+1<cLine)(I:Ã H s)(g:lj H a y o)(M:RelV y u)(J:RelV d r)(h:∀W s',Ã H s'->RelV (o.D d) W->Q W s'):
  wpAny È A (call (.builtin "dict.get") [.ref a,u,r]) Q E s:=by
 rcases g with ⟨kvs,k,e,j,l⟩|⟨kvs,k,b,e,j,O,l⟩
 .subst j;let(z,hd,vs,q,dd):=yG I.aD e;apply Fo PySem.F.slot_dict_get dd.typeIs PySem.F.entry_dict_get (PySem.F.args_dict_get_3 _ _ _) (meets_dict_get_default Č a (xc M) hd r) ⟨_,dd.mapOf,h _ _ (I.tok _) ?_⟩;rw[l];exact(q.val k).D J
 .subst j;cases (show u=Value.ref b from M);let(z,hd,xs,q,dd):=yI I.aD e;apply Fo PySem.F.slot_dict_get dd.typeIs PySem.F.entry_dict_get (PySem.F.args_dict_get_3 _ _ _) (meetsH_dict_get_default Ée a b hd r) ⟨Fn U,k,xs,yH I.aD O,dd,h _ _ (I.tok _) ?_⟩;rw[l];exact(q.val k).D J
end
def Uk(td q:TE):TE:=λσ H Q=>td σ H λx H1=>∃a,x=.ref a/\F6 H1 a/\q σ H1 λy j=>∃o,lj j a y o/\Q (o.D .aO) j
def aeU(td J F:TE):TE:=λσ H Q=>td σ H λx H1=>∃a,x=.ref a/\F6 H1 a/\J σ H1 λy q=>F σ q λz j=>∃o,lj j a y o/\Q (o.D z) j
def aeV(U:X.A.units+1<cLine)(O:PE X o td)(M:ϥ ty)(m:M1 X o "get" jf e gG):PE X (.Call (.Attribute o "get" jf) [e] [] gG) (Uk td ty):=by
 show Ú;apply JI m.base m.c6 m.line PySem.F.plainAttrs_dict PySem.F.slot_dict_get PySem.F.type_dict_get (aP (O pins s σ H _ I h) λu s1 ⟨x,H1,j,rx,a,ex,d,Y⟩=>?_);subst ex;obtain rfl:u=Value.ref a:=rx;let(t1,t2,_):=KW j d;refine Èx;rw[m.trees];apply JC Á (RE (Fh (aP (M pins s1 σ H1 _ j Y) λiv s2 ⟨y,q,z,ry,ov,g,Z⟩=>RB ?_)));exact aeS U z g ry λw' s3 J W=>⟨_,q,J,W,Z⟩
def aeW(hu:X.A.units+1<cLine)(Z:PE X o td)(W:ϥ ty)(Y:PE X f tx)(m:M2 X o "get" jf e f gG):PE X (.Call (.Attribute o "get" jf) [e,f] [] gG) (aeU td ty tx):=by
 show Ú;apply JI m.base m.c6 m.line PySem.F.plainAttrs_dict PySem.F.slot_dict_get PySem.F.type_dict_get (aP (Z pins s σ H _ I h) λu s1 ⟨x,H1,j,rx,a,ex,d,q1⟩=>?_);subst ex;obtain rfl:u=Value.ref a:=rx;let(t1,t2,_):=KW j d;refine Èx;rw[m.trees];refine JC Á (RE (Fh (aP (W pins s1 σ H1 _ j q1) λiv s2 ⟨y,q,M,ry,q2⟩=>
  Fh (aP (Y pins s2 σ q _ M q2) λfv s3 ⟨z,J,O,rz,ov,g,q3⟩=>RB ?_))))
 exact aeT hu O g ry rz λw' s4 U jl=>⟨_,J,U,jl,q3⟩
section
variable{X:Cx}{pins:cb}{σ:St}{H:Hp}{s:Sh}{a:Addr}{kvs:List (Key×V)}{A:Around}{E:VP}
end
section
variable{X:Cx}{pins:cb}{σ:St}{H:Hp}{s:Sh}{a:Addr}{y:V}{u:Value}{A:Around}{E:VP}
end
def aeX:typeLookup (.type "list") "keys"=pure none:=am_miss_of_fast (by first|decide+kernel|rfl)
def Ul:entryFor table "dict.update.loop"=Α Builtin.«dict.update.loop»:=entryFor_of_tree (by kernel_rfl)
def C7:plainId "dict.update.loop"=true:=by decide+kernel
def aeY{s:Sh}{a:Addr}{o:Obj}{xs:Array Value}{k:Nat}{Q:Option Value->Shared->Prop}(M:s.U a=Α o)(hc:o.cls=.type "list")(W:o.data=.seq xs k)(hd:o.dict=Β)(Z:A.handled=Β)(h:∀h' tk,(∀b U,s.U b=Α U->h'.I b=Α U)->Q none {s with heap:=h',toks:=tk}):wpAny Í A (getAttr? ħ "keys") Q E s:=by
 let(c,Aa,Y,sl):=o;simp only at hc W hd;subst hc W hd;let(hp,g,d,tk,os):=s;let J:∀O,(⟨hp,g,d,O,os⟩:Sh).TypeIs ħ "list":=λ_=>⟨_,M,rfl⟩;let q:=aeX;let j:(["__module__","__name__","__qualname__","__doc__","__annotations__"]:LS).Y "keys"=false:=by decide+kernel
 let hsz:("keys":Str).L+100<=sizeLine:=by first|size_fits|decide+kernel
 let f1:=sub_AttributeError;let f3:=PySem.F.slot_list_getattribute.lookup;let f4:=PySem.F.slot_list_getattribute.bind ħ;let f5:=am_list_getattr_none;ext getAttr? getAttrBy? getAttrBy
 repeat (any_goals (first|assumption|exact J _|((with_reducible show wpAny _ _ (call (Value.builtin "list.__getattribute__") _ _) _ _ _);apply JD PySem.F.slot_list_getattribute (J _) am_entry_list_getattribute (PySem.F.args_list_getattribute_2 _ _) (meets_getattribute_miss_list a xs k sl "keys" _ q j hsz) ⟨M,Z,λh' O e z=>?_⟩)|wp_step))
 let(t',u',he):=z.there;show wpAny _ _ (getattributeRaised _ _ _ _ _ _ _) _ _ _;ext getattributeRaised
 repeat (any_goals (first|assumption|wp_step))
 all_goals first|exact h _ _ z.keeps|(dsimp only;repeat (any_goals (first|assumption|exact h _ _ z.keeps|wp_step)))
theorem ae1{α:Type}{R:Result->Shared->Prop}{S I l:Addr}{items:Array Value}{res:Value}{DD:Heap->List α->Prop}{G:Heap->α->Value->Value->Prop}{st:List α->α->List α}(hh:A.handled=Β)(KY:l≠I)(O:S<I)(hSl:S≠l)(dk:∀h h' acc,DD h acc->(∀b o,b<=S->h.I b=Α o->h'.I b=Α o)->DD h' acc) (gk:∀h h' q u y,G h q u y->(∀b o,b<S->h.I b=Α o->h'.I b=Α o)->G h' q u y)(ds:∀(s:Sh)acc q u y(Q:Unit->Shared->Prop)E,G s.H q u y->DD s.H acc->acc.L<=sizeLine->(∀h' tk,DD h' (st acc q)->Heap.SameBut S s.H h'->Q () {s with heap:=h',toks:=tk})->wpAny Í A.in1 (dictSet S u y) Q E s)(sl:∀acc q,(st acc q).L<=acc.L+1):
  ∀(b7:List α)(i:Nat)(acc:List α)(ix:Int)(t:Tok)(s:Sh),items.u=i+b7.L->acc.L+b7.L<=sizeLine->
   (∀(j:Nat)(q:α),b7[j]? =Α q->∃(b:Addr)(u y:Value),items[i+j]? =Α (.ref b)/\b<S/\IsTup s.H b #[u,y]/\G s.H q u y)->
   s.H.IsListIter I l i->s.H.IsList l items->DD s.H acc->
   (∀h' tk,DD h' (b7.foldl st acc)->(∀b o,b≠S->b≠I->s.U b=Α o->h'.I b=Α o)->R (.ok (.ret res)) {s with heap:=h',toks:=tk})->
   codeAny Í A (.builtin "dict.update.loop" ⟨[.ref S,.ref I,.int ix t,res],[]⟩) R s:=by
 intro b7;induction b7 with
 |nil=>
  intro i acc ix t s hsz F7 ht iQ U hm hR;apply BX Ul ?_;rw[BY C7 _];apply aF (wpAny_pyNext_list_end (A:=A.in1) hh iQ U (by first|exact atG (Fe hsz)|(simp at hsz;simp;omega)) λh' he=>?_);exact aF (cV (cV (hR h' s.toks (dk _ _ _ hm λb o F e=>he b o (fU (qy F O)) e) λb o _ F e=>he b o F e)))
 |cons q b7 ih=>
  intro i acc ix t s hsz F7 ht iQ U hm hR;let(b,u,y,F,hbS,Y,hk):=ht 0 q rfl;rw[dg] at hsz F7;apply BX Ul ?_;rw[BY C7 _];apply aF (wpAny_pyNext_list_item (x:=.ref b) iQ U (À F) λh1 F8 J=>?_);let k1:∀b o,b<=S->s.U b=Α o->h1.I b=Α o:=λb o F e=>J.extBut b o (fU (qy F O)) e;let(o,ho,hc,n,hd):=Y.extBut J.extBut (fU (JH hbS O));apply aF (Fb ?_);apply aF (JJ ?_);ext Builtin.Dict.pairItems;apply aF (RL (T:="tuple") ⟨o,ho,hc⟩ ?_);rw[ah (by first|decide|rfl|simp)];apply aF (BS ho hd (cV ?_));apply Fb (ds _ _ _ _ _ _ _ (gk _ _ _ _ _ hk λb o F e=>k1 b o (tm F) e) (dk _ _ _ hm k1) Î λh2 tk2 xh M=>?_);let z:=sl acc q;refine cV ⟨vb C7 _,ih (i+1) (st acc q) (ix+1) 0 _ (show items.u=i+1+b7.L by grind) Î Èy (F8.at λo' e=>M.extBut I o' (u5 O) e) ((U.extBut J.extBut KY).extBut M.extBut (eE hSl)) xh λh' tk j6 k=>hR h' tk j6 λc oc h3 h4 e=>k c oc h3 h4 (M.extBut c oc h3 (J.extBut c oc h4 e))⟩;let(b',u',y',qE,W,Z,l8):=ht (j+1) q' (À e);exact(b',u',y',by rw[show i+1+j=i+(j+1) by lia];exact qE,W,(Z.extBut J.extBut (fU (JH W O))).extBut M.extBut (fU W),gk _ _ _ _ _ l8 λb o F e=>M.extBut b o (fU F) (k1 b o (tm F) e))
def Um{s:Sh}{l:Addr}{O:Obj}{items:Array Value}{n:Nat}{α:Type}{prs:List α}{Q:VP}{DD:Heap->List α->Prop}{G:Heap->α->Value->Value->Prop}{st:List α->α->List α}(hh:A.handled=Β)(W:s.U l=Α O)(hc:O.cls=.type "list")(hd:O.dict=Β)(vB:O.data=.seq items n) (hsz:items.u=prs.L) (F7:prs.L<=sizeLine)(d0:DD (s.o {cls:=.type "dict",data:=.dict #[]}) [])(dk:∀h h' acc,DD h acc->(∀b o,b<=s.Z->h.I b=Α o->h'.I b=Α o)->DD h' acc) (gk:∀h h' q u y,G h q u y->(∀b o,b<s.Z->h.I b=Α o->h'.I b=Α o)->G h' q u y)(ds:∀(M:Sh)acc q u y(Q:Unit->Shared->Prop)E,G M.H q u y->DD M.H acc->acc.L<=sizeLine->(∀h' tk,DD h' (st acc q)->Heap.SameBut s.Z M.H h'->Q () {M with heap:=h',toks:=tk})->wpAny Í A.in1.in1 (dictSet s.Z u y) Q E M)(sl:∀acc q,(st acc q).L<=acc.L+1)(ht:∀(j:Nat)(q:α),prs[j]? =Α q->∃(b:Addr)(u y:Value),items[j]? =Α (.ref b)/\IsTup s.H b #[u,y]/\G s.H q u y)(h:∀h' tk,DD h' (prs.foldl st [])->(∀b o,s.U b=Α o->h'.I b=Α o)->Q ú {s with heap:=h',toks:=tk}):
  wpAny Í A (call (.type "dict") [.ref l]) Q E s:=by
 apply callType_codes (Q₁:=λobj s₁=>obj=.ref s.Z/\s₁={s with heap:=s.o {cls:=.type "dict",data:=.dict #[]}}) PySem.F.kt_called_dict (PySem.F.kt_typeCall_dict_1 _) PySem.F.entry_dict_init (kt_code_dict_new _ ⟨Á,Á⟩) ?_;rintro obj s₁ ⟨rfl,rfl⟩;let Uo:(s.o {cls:=.type "dict",data:=.dict #[]}).DictOf Åp s.Z []:=aba s.H;let k0:∀b o,s.U b=Α o->(s.o {cls:=.type "dict",data:=.dict #[]}).I b=Α o:=λb o e=>du _ e;apply(Uo.typeIs,PySem.F.args_dict_init_2 _ _,?_);delta Builtin.«dict.__init__»;apply aF ?_;ext Builtin.Dict.selfAndRest;apply aF (wpAny_notOrdered_dict Uo.typeIs ?_);show wpAny _ _ (pure (s.Z,[Value.ref l])) _ _ _;apply cV ?_;show wpAny _ _ (Builtin.Dict.updateFrom "dict.__init__" s.Z Âa [] .none) _ _ _;ext Builtin.Dict.updateFrom;apply aF (RL (T:="list") ⟨O,k0 _ _ W,hc⟩ ?_);rw[ah Ð];apply aF (aeY (k0 _ _ W) hc vB hd hh λJ tk1 U=>?_);rw[ah (show(none:Option Value).isNone=true from rfl)];apply aF (Rx ?_);let eZ:J.IsList l items:=⟨O,U _ _ (k0 _ _ W),hc,n,vB⟩;let vD:s.Z<J.O:=by
  let e:(s.o {cls:=.type "dict",data:=.dict #[]}).I s.Z=Α {cls:=.type "dict",data:=.dict #[]}:=ia _ rfl;exact dh (U _ _ e)
 apply aF (Rz eZ ?_);let k2:∀b o,J.I b=Α o->(J.push {cls:=.type "list_iterator",data:=.fields #[.ref l,.int 0 0]}).I b=Α o:=λb o e=>du _ e;let bO:l<s.Z:=dh W;let Y:=JH bO vD;let Z:∀b o,s.U b=Α o->(J.push {cls:=.type "list_iterator",data:=.fields #[.ref l,.int 0 0]}).I b=Α o:=λb o e=>k2 _ _ (U _ _ (k0 _ _ e));let hZ:=ae1 (prog:=prog) (w:=w) (A:=A.in1) (R:=wants (λr s₂=>r=.none/\Q ú s₂) E) (S:=s.Z) (I:=J.O) (l:=l) (items:=items) (res:=Value.none) hh
  (fU Y) vD (u5 bO) dk gk ds sl prs 0 [] 0 0
  {s with heap:=J.push {cls:=.type "list_iterator",data:=.fields #[.ref l,.int 0 0]},toks:=tk1} (by rw[hsz,vc]) (by rw[tj,vc];exact F7)
  (λj q e=>by
   let(b,u,y,e1,e2,e3):=ht j q e;exact(b,u,y,by rw[vc];exact e1,e2.lt,e2.keeps λc o z=>Z _ _ z,gk _ _ _ _ _ e3 λc o _ z=>Z _ _ z))
  ⟨_,ia _ rfl,rfl,rfl⟩ (eZ.at λo e=>k2 _ _ e) (dk _ _ _ d0 λb o _ e=>k2 _ _ (U _ _ e))
  (λh' tk j6 k=>⟨rfl,h h' tk j6 λb o e=>k b o Èq (fU (JH (dh e) vD)) (Z _ _ e)⟩)
 first
  |exact cV ⟨vb C7 _,hZ⟩
  |exact aF (cV (cV ⟨vb C7 _,hZ⟩))
def ae8{pins:cb}{σ:St}{H:Hp}{s:Sh}(I:Ã H s):∀{ps:LA}{kvs:List (Key×V)},Paired (λp kv=>bw X.K H p [kV kv.1,kv.2]) ps kvs->
  ∃prs:List (Key×Value),KV kvs prs/\prs.L=ps.L/\∀(j:Nat)(q:Key×Value),prs[j]? =Α q->∃(b:Addr)(u:Value),ps[j]? =Α b/\IsTup s.H b #[u,q.2]/\rM q.1 u=true:=by
 intro ps kvs U;induction U with
 |nil=>exact([],.nil,Á,λj q e=>by simp at e)
 | @cons p kv ps kvs h t ih=>
  let(prs,r,W,Y):=ih;let(aj,rv,Z,_):=I.tuple h;let(u,y,O,ru,ry):=vals2 rv;subst O;apply((kv.1,y)::prs,.cons ⟨Á,ry⟩ r,by rw[dg,dg,W],λj q e=>?_);cases j with
  |zero=>
   let z:(kv.1,y)=q:=aQ e;subst z;exact(p,u,Á,Z,xc (P:=X.prog) (w:=X.w) ru)
  |succ j=>
   let(b,u',F,J,M):=Y j q (À e);exact(b,u',À F,J,M)
theorem Uq{ps:LA}:∀{U:LV},bp Àk U->U=ps.M Value.ref:=by
 induction ps with
 |nil=>
  intro U r;rw[mJ] at r;cases r;rfl
 |cons p ps j=>
  intro U r;rw[a7] at r;cases r with
  |cons h t=>
   cases h;rw[a7,<-j t]
def ae9(J:X.calm=true):k9 X (.type "dict") (λxs H Q=>∃(a:Addr)(ps:LA)(kvs:List (Key×V)),xs=[.ref a]/\Ák a Àk/\Paired (λp kv=>bw X.K H p [kV kv.1,kv.2]) ps kvs/\
  ∀p,H p=Β->Q Ĝ (upd H p Æk)):=by
 intro pins s σ H xs us Q I r q;let(a,ps,kvs,ex,hq,hp,q):=q;subst ex;let(u,Y,rx):=vals1 r;subst Y;cases rx;let(aj,rv,pl,hz):=I.list hq;let W:=Uq rv;subst W;rw[ak] at hz;let(prs,F,z,il):=ae8 I hp;let(o,n,ho,hc,hd,vB):=pl;apply Um (prs:=prs) (DD:=λh=>h.DictOf Č s.Z) (G:=λ_ q u y=>y=q.2/\rM q.1 u=true) (st:=λa q=>stored a q.1 q.2) (I.ok.hd J) ho hc hd vB (by simp[z]) Å (aba s.H) (λ_ _ _ d k=>d.at λo e=>k _ o (bA _) e) (λ_ _ _ _ _ g _=>g) (λ_ _ _ _ _ _ _ g d hz k=>g.1▸ wpAny_dictSet_pairs (knd:=fw X.prog X.w) g.2 d (λh'=>k h' _) hz) (λa q=>stored_length_le a q.1 q.2) Èy λh' tk j6 k=>?_
 .let(b,u,e1,O,U):=il j q' e;exact(b,u,_,by simp_all,O,rfl,U)
 .let Z:(s.Z==sysModules)=false:=yi.mpr (u5 I.big);let M:(vA [] kvs).L<=sizeLine:=by
   apply gn (aeR kvs []) ?_;rw[tj,vc,F.L,z];omega
  exact(.ref s.Z,ĕ Æk,I.laid (t':=tk) k (bA _) (show gu X.prog X.w _ _ _ Æk from⟨M,Z,merged [] prs,KV.merge F .nil,j6⟩),Á,q _ ġ)
section
variable{X:Cx}{pins:cb}{σ:St}{H:Hp}{s:Sh}{h':Heap}
def Inv.afa{t':Nat}{ch:LA}(I:Ã H s)(k:∀b o,b∉ch->s.U b=Α o->h'.I b=Α o)(j:∀b∈ch,ň H b):Ã H {s with heap:=h',toks:=t'}:=by
 let W:∀b u,H b=Α u->b∉ch:=λb u e z=>by
  let q:=(j b z).1;symm
 refine I.step (g':=s.gens) (d':=s.drawn) (ch:=ch) (λb F=>⟨(j b F).2.2.2.1,(j b F).2.1,(j b F).2.2.2.2.1,(j b F).2.2.2.2.2⟩) (λb o _ _ hc e _=>k b o hc e) (λb o _ _ hc e _=>⟨o.slots,k b o hc e⟩)
  (λ_ _ _ _ n=>n) (λb o hc e=>⟨o,k b o hc e⟩) (λ_ _ e=>e) (λ_ _ _ e=>e) (λb ps e=>⟨#[],by rw[e];simp⟩) (λm J=>?_) (λb u e=>?_) I.bare
 .let(o,es,ep,M,r):=J;exact(o,es,ep,k _ o (λz=>(j _ z).2.1 Á) M,r)
 .refine(I.aD b u e).rN Ân (λ_ q=>q) λ_ _ q=>q;rcases hc with z|z
  .rw[z];exact W b u e
  .exact W c _ z
def Inv.afb{t':Nat}{ch:LA}{T:Addr}{O:HO}(I:Ã H s)(k:∀b o,b∉ch->s.U b=Α o->h'.I b=Α o)(F:∀b∈ch,ň H b)(J:s.Z<=T)(new:Àf (upd H T O) h' T O):Ã (upd H T O) {s with heap:=h',toks:=t'}:=by
 let hn:H T=Β:=I.aD.fresh J;let W:∀b u,H b=Α u->b∉ch:=λb u e z=>by
  let q:=(F b z).1;symm
 refine I.step (g':=s.gens) (d':=s.drawn) (ch:=ch) (λb j=>⟨(F b j).2.2.2.1,(F b j).2.1,(F b j).2.2.2.2.1,(F b j).2.2.2.2.2⟩) (λb o _ _ hc e _=>k b o hc e) (λb o _ _ hc e _=>⟨o.slots,k b o hc e⟩)
  (λb o _ e n=>?_) (λb o hc e=>⟨o,k b o hc e⟩) (λb xs e=>?_) (λb o u e=>?_) (λb ps e=>⟨#[],?_⟩) (λm M=>?_) (λb u e=>?_) I.bare
 .rw[az (fU (j3 (dh e) J))];exact n
 .rw[az (eQ e hn)];exact e
 .rw[az (eQ e hn)];exact e
 .rw[az (eQ e hn),e];simp
 .let(o,es,ep,U,r):=M;exact(o,es,ep,k _ o (λz=>(F _ z).2.1 Á) U,r)
 .by_cases j:b=T
  .subst j;rw[aq] at e;cases e;exact new
  .rw[az j] at e;refine(I.aD b u e).rN Ân (λc q=>by rw[az Åb];exact q) λc xs q=>by rw[az Åb];exact q
   rcases hc with z|z
   .rw[z];exact W b u e
   .exact W c _ z
def Inv.lock(I:Ã H s)(h:H d=Α u)(M:vi Éf):∃od,Ã Æz s:=by
 let x:=I.aD d u h;let ex:∃od,s.U d=Α od:=by
  cases u with
  |lst xs=>let(_,_,_,_,e):=x;exact(_,e)
  |dK kvs=>let(_,_,_,_,o,_,_,e,_):=x;exact(o,e)
  |dT kvs=>let(_,_,_,_,o,_,_,e,_):=x;exact(o,e)
  |set S n=>let(o,_,_,_,e,_):=x;exact(o,e)
  |ins C dx fs=>let(_,_,_,e,_):=x;exact(_,e)
  |ext φ=>let(_,(_,e),_):=x;exact(_,e)
  |_=>exact False.elim M
 let(od,e):=ex;let new:Àf Æz s.H d ϕ:=by
  apply(e,x.rN (λb v _ q=>q) (λb q=>?_) λb xs q=>?_)
  .rw[az (λz=>by rw[z,h] at q;cases q;exact M)];exact q
  .rw[az (λz=>by rw[z,h] at q;cases q;exact M)];exact q
 exact(od,I.write (x:=d) (e:=d) (t':=s.toks) (h':=s.H) Å ĝ (λb v _ q=>q) ⟨od,e⟩ new)
def Inv.C9(I:Ã H s)(h:H d=Α u)(M:vi Éf):∀O U,X.yo d≠some (.cO O U):=λO U e=>by
 let q:=I.base.rO d O U e;rw[h] at q;cases q;exact M
def Inv.unlock(I:Ã H s)(h:H d=Α ϕ)(W:∀O U,X.yo d≠some (.cO O U)):Ã (upd H d u) s:=by
 let j:∀b o,H b=Α o->(∀O U,o≠ .cO O U)->b≠d:=λb o e M z=>by
  grind
 let neN:∀b,H b=Β->b≠d:=λb e z=>by rw[z,h] at e;cases e
 apply(I.ok,I.os,I.bare,⟨I.base.keep,I.base.slot,λb o e n hx=>?_,I.base.there,λb xs e=>?_,λb o x e=>?_,λb ps e=>?_⟩,I.loc,I.cell,?_,λx c e=>?_,λp J=>?_,λb o e=>?_,I.len)
 .rw[az (neN b Ϭ)];exact I.base.free b o e n hx
 .let q:=I.base.vj b xs e;rw[az (j b _ q (λ_ _ z=>nomatch z))];exact q
 .let q:=I.base.rO b o x e;rw[az (λz=>by simp_all)];exact q
 .let(m,q):=I.base.vk b ps e;exact(m,by rw[az (j b _ q (λ_ _ z=>nomatch z))];exact q)
 .rw[az (neN _ I.free)];exact I.free
 .rw[az (neN c Çw)];exact I.nu x c e
 .let(e,n,r):=I.pin p J;exact(e,by rw[az (neN _ n)];exact n,r)
 .by_cases F:b=d
  .rw[F,aq] at e;cases e;rw[F];let(_,x):=I.aD d _ h;exact x.rN (λc v _ q=>q) (λc q=>by rw[az (j c _ q (λ_ _ z=>nomatch z))];exact q) λc xs q=>by rw[az (j c _ q (λ_ _ z=>nomatch z))];exact q
  .rw[az F] at e;exact(I.aD b o e).rN (λc v _ q=>q) (λc q=>by rw[az (j c _ q (λ_ _ z=>nomatch z))];exact q) λc xs q=>by rw[az (j c _ q (λ_ _ z=>nomatch z))];exact q
end
def afc(t:TS):TS:=λD σ H=>∃d u,H d=Α u/\vi Éf/\∀od,t ⟨λσ' H'=>H' d=Α ϕ/\D.nx σ' Äa,λv H'=>H' d=Α ϕ/\D.rt v Äa,λσ' H'=>H' d=Α ϕ/\D.bk σ' Äa,λσ' H'=>H' d=Α ϕ/\D.ct σ' Äa⟩ σ Æz
def afd(t:TE):TE:=λσ H Q=>∃d u,H d=Α u/\vi Éf/\∀od,t σ Æz λv H'=>H' d=Α ϕ/\Q v Äa
def Ur{st:Stmt}{t:TS}(h:PS X st t):PS X st (afc t):=by
 intro pins s σ H D I z;let(d,u,hd,mu,z):=z;let(od,F):=I.lock hd mu;apply aP (h pins s σ _ _ F (z od)) λf J q=>?_;cases f with
 |next=>let(σ',H',j,e,q):=q;exact(σ',_,j.unlock e Äh,q)
 |brk=>let(σ',H',j,e,q):=q;exact(σ',_,j.unlock e Äh,q)
 |cont=>let(σ',H',j,e,q):=q;exact(σ',_,j.unlock e Äh,q)
 |ret v=>let(x,σ',H',j,r,e,q):=q;exact(x,σ',_,j.unlock e Äh,r,q)
def afe(h:ϥ t):ϥ (afd t):=by
 intro pins s σ H Q I j;let(d,u,hd,mu,j):=j;let(od,z):=I.lock hd mu;apply aP (h pins s σ _ _ z (j od)) λv M ⟨x,H1,F,r,J,q⟩=>?_;exact(x,_,F.unlock J Äh,r,q)
def Ga{tg:Expr}{pins:cb}{σ:St}{H:Hp}{s:Sh}{R:It->Hp->Prop}{J:It}{tn:Nat->Heap->Prop}{tk:Nat}(I:Ã H s)(o:Obj)(T:Turn X.prog X.w X.K tg J [s.Z] s.Z tn) (st:tn 0 (s.o o)) (q:R J H):Cq X pins σ tg R ú {s with heap:=s.o o,toks:=tk}:=by
 apply(s.Z,[s.Z],tn,J,H,Á,I.kept λb O e=>du _ e,T,st,λb j=>?_,q);let e:b=s.Z:=À j
 subst e;exact I.wO (bA _) ġ
def Da(x:Str):It:=⟨λi _=>i<x.cps.u,λi H v H'=>H'=H/\∃c,x.cps[i]? =Α c/\v=.str ⟨#[c]⟩,λi _=>x.cps.u<=i⟩
def Us{P:Pg}{w:Wd}{K:FR}{tg:Expr}(it:Addr)(x:Str)(t:Tok)(j:String)(q:j="str_ascii_iterator"\/j="str_iterator"):
  Turn P w K tg (Da x) [it] it (λi h=>h.IsStrIter it j x t i) where
 mem:=by simp
 obj:=λi h st b hb=>by
  let e:b=it:=À hb
  subst e;let(o,e,c,d):=st;exact(o,e,λv z=>by rw[d] at z;cases z)
 keep:=λi h h' st k=>let ⟨o,ho,r⟩:=st;⟨o,k it Ä o ho,r⟩
 item:=by
  show Õ;subst hP hw hK;show ì;let W:Walks X.prog X.w X.A it [it] [it] x.cps.u (SignAt x) (λi h=>h.IsStrIter it j x t i):=by
   rcases q with e|e
   .rw[e];exact Walks.strAscii ă it x t
   .rw[e];exact Walks.strWide ă it x t
  let M:["enumerate","zip","dict_itemiterator","dict_reverseitemiterator","odict_iterator","itertools.zip_longest","itertools.pairwise"].Y j=false:=by
   rcases q with e|e
   .rw[e];decide
   .rw[e];decide
  apply W.item i s _ _ hg st λv h' tk Y J Z=>?_;let(c,u,pQ,rfl):=Y;let O:Ã H {s with heap:=h',toks:=tk}:=I.turned (λb o hb e=>Z b o (À hb) e) f0 f1 f3 f4 f5;let(oi,e,U,dd):=id J;exact(_,Á,FI (s:={s with heap:=h',toks:=tk}) e U dd M ⟨.str ⟨#[c]⟩,H,O,⟨u,Á⟩,⟨Á,c,pQ,Á⟩,J,λb hb=>(hf b hb).1⟩)
 done:=by
  show Õ;subst hP hw hK;show ì;let F:x.cps[i]? =Β:=atG hg;rcases q with e|e
  .rw[e] at st;exact wpAny_pyNext_ascii_end ă st F λh' eb=>⟨Á,I.turned (t':=s.toks) ϙ f0 f1 f3 f4 f5⟩
  .rw[e] at st;exact wpAny_pyNext_wide_end ă st F λh' eb=>⟨Á,I.turned (t':=s.toks) ϙ f0 f1 f3 f4 f5⟩
 self:=λA i s Q E st h=>by
  rcases q with e|e
  .rw[e] at st;exact wpAny_pyIter_striter_ascii st h
  .rw[e] at st;exact wpAny_pyIter_striter_wide st h
def aff(te:TE):TI:=λσ H R=>te σ H λv H1=>∃x,v=.str x/\R (Da x) H1
def afg{X:Cx}{tg e:Expr}{te:TE}(F:ϥ te):PI X tg e (aff te):=by
 intro pins s σ H R I h;apply aP (F pins s σ H _ I h) λv z ⟨y,H1,j,J,x,ex,q⟩=>?_;subst ex;let(t,rfl):=J;cases ha:x.cps.all (· <128)
 .exact wpAny_pyIter_wide ha (Ga (tk:=z.toks) j _ (Us _ x t "str_iterator" Ép) ⟨_,ia _ Á,Á,Á⟩ q)
 .exact wpAny_pyIter_ascii ha (Ga (tk:=z.toks) j _ (Us _ x t "str_ascii_iterator" ĝ) ⟨_,ia _ Á,Á,Á⟩ q)
theorem K1{κ:Type}{kvs:List (κ×V)}{vs:List (κ×Value)}(h:KV kvs vs):∀{i:Nat}{k:κ}{v:V},kvs[i]? =Α (k,v)->∃u,vs[i]? =Α (k,u)/\RelV v u:=by
 delta KV at h;induction h with
 |nil=>intro i k v e;simp at e
 | @cons a b l₁ l₂ r t ih=>
  intro i k v e;cases i with
  |zero=>
   simp only[atJ,Option.some.injEq] at e;subst e;apply(b.2,?_,r.2);simp only[atJ];exact b9 some (Prod.ext r.1.symm Á)
  |succ j=>
   simp only[atM] at e⊢;exact ih e
def Ut(h:rM k u=true):RelV (kV k) u:=by
 rcases tF h with ⟨i,t,rfl,rfl⟩|⟨x,t,rfl,rfl⟩
 .exact(t,Á)
 .exact(t,Á)
section
variable{X:Cx}{pins:cb}{σ:St}{H:Hp}{s:Sh}{d:Addr}{o:Obj}
def Inv.Au(I:Ã H s)(h:H d=Α ϯ):
  (d==sysModules)=false/\s.U d=Α o/\o.ExactDict/\∃(es:Array DictEntry)(ep:Nat)(vs:List (Key×Value)),o.data=.dict es ep/\es.u=kvs.L/\KV kvs vs/\s.H.DictAt Č d vs ep:=by
 let(hd,z,hs,vs,kv,O,es,ep,j,q,M,r):=I.aD d _ h;rw[hd] at j;cases j;apply(hs,hd,q,es,ep,vs,M,?_,kv,o,es,hd,q,M,r);let F:=r.2.1.L;let J:kvs.L=vs.L:=Paired.length kv;symm
end
def Dc(d:Addr)(o:Obj)(kvs:List (Key×V)):It:=
 ⟨λi H=>H d=Α ϯ/\i<kvs.L,λi H x H'=>H'=H/\∃k,kvs[i]? =Α (k,x),λi H=>H d=Α ϯ/\kvs.L<=i⟩
def xi(d:Addr)(o:Obj)(kvs:List (Key×V)):It:=
 ⟨λi H=>H d=Α ϯ/\i<kvs.L,λi H x H'=>∃T k v,kvs[i]? =Α (k,v)/\x=.ref T/\H T=Β/\H'=upd H T Èi,λi H=>H d=Α ϯ/\kvs.L<=i⟩
def Gb{o:Obj}{es j:Array DictEntry}{ep q:Nat}(h:o.data=.dict es ep)(h':o.data=.dict j q):j=es/\q=ep:=by
 symm
section
variable{P:Pg}{w:Wd}{K:FR}{tg:Expr}{d:Addr}{o:Obj}{es:Array DictEntry}{ep:Nat}
def afh{kvs:List (Key×V)}(it:Addr)(J:o.data=.dict es ep):Turn P w K tg (Dc d o kvs) [it] it (λi h=>h.IsValIter it d i kvs.L ep) where
 mem:=by simp
 obj:=λi h st b j=>by
  let e:b=it:=À j
  subst e;let(O,e,c,dd):=st;exact(O,e,λv z=>by rw[dd] at z;cases z)
 keep:=λi h h' st k=>st.at λO e=>k it Ä O e
 item:=by
  show Õ;subst hP hw hK;let(hd,hi):=hg;show ì;let(hs,Z,hx,pG,tH,vs,M,hsz,kv,F):=I.Au hd;let(rfl,rfl):=Gb J M;obtain⟨⟨k,v⟩,U⟩:∃p,kvs[i]? =Α p:=⟨kvs[i],cI hi⟩;let(u,hu,ru):=K1 kv U;let q:kvs.L=vs.L:=Paired.length kv;rw[q] at st;apply wpAny_pyNext_values_item st F hu λh' W sb=>?_;let I1:Ã H {s with heap:=h'}:=I.turned (t':=s.toks) (λb Y j e=>(sb.2 b j).R e) f0 f1 f3 f4 f5;let(O,e,c,dd):=id W;apply(u,Á,FI (s:={s with heap:=h'}) e c dd Ñ ⟨v,H,I1,ru,⟨Á,k,U⟩,?_,λb j=>(hf b j).1⟩);show h'.IsValIter it d (i+1) kvs.L _;rw[q];exact W
 done:=by
  show Õ;subst hP hw hK;let(hd,hi):=hg;show ì;let(hs,Z,hx,pG,tH,vs,M,hsz,kv,F):=I.Au hd;let(rfl,rfl):=Gb J M;let q:kvs.L=vs.L:=Paired.length kv;rw[q] at st;exact wpAny_pyNext_values_end ă st F (yk Å) λh' eb=>⟨Á,I.turned (t':=s.toks) (λb Y j e=>eb b Y j e) f0 f1 f3 f4 f5⟩
 self:=λA i s Q E st h=>wpAny_pyIter_valiter st h
def Gc{X:Cx}{fp:LA}(st:∀b∈fp,∃o,s.U b=Α o/\∀v,o.data≠ .cell v)(z:∀b∈fp,ň H b){q:Heap}{t':Nat}{x y:V}{u v:Value}(k:∀b o,b∉fp->s.U b=Α o->q.I b=Α o)(I:Ã H s)(F:q.I s.Z=Α {cls:=.type "tuple",data:=.seq #[u,v]}) (J:RelV x u) (M:RelV y v):Ã (ĕ Çx) {s with heap:=q,toks:=t'}/\∀b∈fp,(ĕ Çx) b=Β:=
 ⟨I.afb k z (bA _) ⟨by show 2<=sizeLine;decide,[u,v],.cons J (.cons M .nil),_,F,rfl,_,rfl⟩,λb j=>by
  let(o,e,_):=st b j;rw[az Èq];exact(z b j).1⟩
def Uu(st:∃ok O,IsItemIter h it d i n ep ok O):∀b∈[it],∃o,h.I b=Α o/\∀v,o.data≠ .cell v:=λb j=>by
 obtain rfl:b=it:=À j
 let(ok,O,e):=st;exact(_,e,λv z=>nomatch z)
def afi{kvs:List (Key×V)}{oo:List Expr}{kk:Nat}{nN:Pos}(it:Addr)(Y:o.data=.dict es ep):
  Turn P w K Ĵ (xi d o kvs) [it] it (λi h=>∃ok q,IsItemIter h it d i kvs.L ep ok q) where
 mem:=by simp
 obj:=λi h=>Uu
 keep:=λi h h' st k=>let ⟨ok,q,e⟩:=st;⟨ok,q,k it Ä _ e⟩
 item:=by
  show Õ;subst hP hw hK;let(hd,hi):=hg;let(hs,De,hx,pG,tH,vs,U,hsz,kv,M):=I.Au hd;let(rfl,rfl):=Gb Y U;obtain⟨⟨k,v⟩,Z⟩:∃p,kvs[i]? =Α p:=⟨kvs[i],cI hi⟩;let(u,hu,ru):=K1 kv Z;let F:kvs.L=vs.L:=Paired.length kv;let O:=Uu st;let(ok,q,j):=st;rw[F] at j;let bO:it<s.Z:=dh j;apply wpAny_pyNext_items_item j M hu λJ h' Ks ho hT hz hk=>?_;apply(_,Á,wpAny_letOwnedTupleGo_items (s:={s with heap:=h'}) ho λqI jN sb=>?_);let vE:qI.I s.Z=Α {cls:=.type "tuple",data:=.seq #[J,u]}:=(sb.2 _ (u5 bO)).R hT;let ⟨I1,n1⟩:=Gc (t':=s.toks) O hf (λb O z e=>(sb.2 b (À z)).R (hk b O (À z) e)) I vE (Ut (show rM k J=true from Ks)) ru;exact(.ref s.Z,_,I1,Á,⟨_,k,v,Z,Á,I.aD.fresh (bA _),Á⟩,⟨J,u,by rw[F];exact jN⟩,n1)
 done:=by
  show Õ;subst hP hw hK;let(hd,hi):=hg;show ì;let(hs,De,hx,pG,tH,vs,U,hsz,kv,M):=I.Au hd;let(rfl,rfl):=Gb Y U;let F:kvs.L=vs.L:=Paired.length kv;let(ok,q,j):=st;rw[F] at j;exact wpAny_pyNext_items_end ă j M (yk (by omega)) λh' eb=>⟨Á,I.turned (t':=s.toks) (λb O z e=>eb b O z e) f0 f1 f3 f4 f5⟩
 self:=λA i s Q E st h=>let ⟨_,_,e⟩:=st;PySem.W.kcp_self e h
end
def afj(td:TE):TI:=λσ H R=>td σ H λx H1=>∃d o kvs,x=.ref d/\H1 d=Α ϯ/\R (Dc d o kvs) H1
def afk(td:TE):TI:=λσ H R=>td σ H λx H1=>∃d o kvs,x=.ref d/\H1 d=Α ϯ/\R (xi d o kvs) H1
section
variable{X:Cx}{tg e:Expr}{td:TE}{jf gG:Pos}
def afl(O:ϥ td)(Y:attributeBase e "values" X.env Àm=eval e X.env:=by rfl)(Z:(jf.endLine==gG.line)=true:=by rfl):PI X tg (.Call (.Attribute e "values" jf) [] [] gG) (afj td):=by
 intro pins s σ H R I h;apply JI (T:="dict") (id:="dict.values") Y Á Z F.plainAttrs_dict F.slot_dict_values F.type_dict_values (aP (O pins s σ H _ I h) λu j ⟨x,H1,J,W,d,o,kvs,ex,hd,q⟩=>?_);subst ex;obtain rfl:u=Value.ref d:=W;let(hs,De,hx,es,ep,vs,U,hsz,kv,z):=J.Au hd;let hl:kvs.L=vs.L:=Paired.length kv;apply(z.dictOf.typeIs,z.dictOf.mapOf.noDict,?_);let M:Ã H1 {j with heap:=j.o {cls:=.type "dict_values",data:=.fields #[.ref d]}}:=J.kept (t':=j.toks) λb ob q=>du _ q;let fin:wpAny È X.A (pyIter (.ref j.Z)) Åj X.xe {j with heap:=j.o {cls:=.type "dict_values",data:=.fields #[.ref d]}}:=by
  apply wpAny_pyIter_values (d:=d) (knd:=fw X.prog X.w) ⟨_,ia _ Á,Á,Á⟩ (z.push _) (Ga (tk:=j.toks) M _ (afh _ U) ⟨_,ia _ Á,Á,?_⟩ q);symm
 show wpAny _ _ (callWith gG (.builtin "dict.values") [.ref d] [] []) _ X.xe j;exact method_meetsIn F.slot_dict_values F.entry_dict_values Á (PySem.evalArgs_none ⟨Á,z.dictOf.typeIs,F.args_dict_values_1 _,_,meets_dict_values Č d hs,⟨vs,z.dictOf⟩,fin⟩)
def Uv{oo:List Expr}{kk:Nat}{nN:Pos}(O:ϥ td)(Z:attributeBase e "items" X.env Àm=eval e X.env:=by rfl)(yC:(jf.endLine==gG.line)=true:=by rfl):
  PI X Ĵ (.Call (.Attribute e "items" jf) [] [] gG) (afk td):=by
 intro pins s σ H R I h;apply JI (T:="dict") (id:="dict.items") Z Á yC F.plainAttrs_dict F.slot_dict_items F.type_dict_items (aP (O pins s σ H _ I h) λu j ⟨x,H1,J,Y,d,o,kvs,ex,hd,q⟩=>?_);subst ex;obtain rfl:u=Value.ref d:=Y;let(hs,De,hx,es,ep,vs,W,hsz,kv,z):=J.Au hd;let U:kvs.L=vs.L:=Paired.length kv;apply(z.dictOf.typeIs,z.dictOf.mapOf.noDict,?_);let M:Ã H1 {j with heap:=j.o {cls:=.type "dict_items",data:=.fields #[.ref d]}}:=J.kept (t':=j.toks) λb ob q=>du _ q;let fin:wpAny È X.A (pyIter (.ref j.Z)) (Cq X pins σ Ĵ R) X.xe {j with heap:=j.o {cls:=.type "dict_items",data:=.fields #[.ref d]}}:=by
  apply wpAny_pyIter_items (d:=d) (knd:=fw X.prog X.w) ⟨_,ia _ Á,Á,Á⟩ (z.push _) (Ga (tk:=j.toks) M _ (afi _ W) ⟨.none,.none,?_⟩ q);rw[U];exact ia _ Á
 show wpAny _ _ (callWith gG (.builtin "dict.items") [.ref d] [] []) _ X.xe j;exact method_meetsIn F.slot_dict_items F.entry_dict_items Á (PySem.evalArgs_none ⟨Á,z.dictOf.typeIs,F.args_dict_items_1 _,_,meets_dict_items Č d hs,⟨vs,z.dictOf⟩,fin⟩)
end
def xj(K:FR)(a:Addr):It:=
 ⟨λi H=>∃(xs:ay)(x:V),ä a xs/\xs[i]? =Α x,λi H v H'=>∃T x,v=.ref T/\H T=Β/\H'=upd H T (.tup [.int (i:Nat),x])/\∀xs,ä a xs->xs[i]? =Α x,λi H=>∃xs:ay,ä a xs/\xs.L<=i⟩
def Gd{e j:Addr}{Z:Prop}(st:(∃J,IsEnum h e j c J)/\(∃o,h.I j=Α o/\o.cls=C/\o.data=.fields vs)/\Z):∀b∈[e,j],∃o,h.I b=Α o/\∀v,o.data≠ .cell v:=λb F=>by
 let((J,M),(o,O,hc,hd),_):=st;let z:b=e\/b=j:=À F
 rcases z with rfl|rfl
 .exact(_,M,λv q=>nomatch q)
 .exact(o,O,λv q=>by rw[hd] at q;cases q)
def afm{P:Pg}{w:Wd}{K:FR}{oo:List Expr}{kk:Nat}{nN:Pos}(a e it:Addr):
  Turn P w K Ĵ (xj K a) [e,it] e (λi h=>(∃J,IsEnum h e it ((i:Nat):Int) J)/\h.IsListIter it a i/\e≠it) where
 mem:=by simp
 obj:=λi h=>Gd
 keep:=λi h h' st k=>let ⟨⟨J,j⟩,hi,aL⟩:=st;⟨⟨J,k e Ä _ j⟩,hi.at λo q=>k it Ä o q,aL⟩
 item:=by
  show Õ;subst hP hw hK;let W:=Gd st;let((J,j),U,aL):=st;let(xs,x,M,O):=hg;let(aj,Y,p,hz):=I.list M;let(u,hu,ru):=Y.get O;let K2:e<s.Z:=dh j;apply wpAny_pyNext_enum_item j U p.isList (x:=u) (À hu) aL λh' ho J3 hT hsz hk=>?_;apply(_,Á,atQ (s:={s with heap:=h',toks:=s.toks+1}) ho λqI jN Z=>?_);let vE:qI.I s.Z=Α {cls:=.type "tuple",data:=.seq #[.int i s.toks,u]}:=(Z.2 _ (u5 K2)).R hT;let ⟨I1,n1⟩:=Gc (x:=.int (i:Nat)) (t':=s.toks+1) W hf (λb W F q=>(Z.2 b (λz=>F (by simp[z]))).R (hk b W (λz=>F (by simp[z])) (λz=>F (by simp[z])) q)) I vE ⟨_,rfl⟩ ru;exact(.ref s.Z,_,I1,Á,⟨_,x,Á,I.aD.fresh (bA _),Á,λys hy=>by rw[I.Cm hy M];exact O⟩,⟨⟨u,by rw[show((i+1:Nat):Int)=(i:Int)+1 by rfl];exact jN⟩,J3.at λo q=>(Z.2 it Æc).R q,aL⟩,n1)
 done:=by
  show Õ;subst hP hw hK;let((J,j),U,aL):=st;let(xs,M,O):=hg;let(aj,Y,p,hz):=I.list M;show ì;let hl:=Y.L;exact wpAny_pyNext_enum_end ă j U p.isList (by simp;omega) λh' eb=>⟨Á,I.turned (t':=s.toks) (λb o F q=>eb b o F q) f0 f1 f3 f4 f5⟩
 self:=λA i s Q E st h=>let ⟨⟨_,j⟩,_⟩:=st;RM j h
def afn(K:FR)(ta:TA):TI:=λσ H R=>ta σ H λvs H1=>∃a xs,vs=[.ref a]/\aa K H1 a xs/\R (xj K a) H1
def jO(hg:Gl X "enumerate")(hm:X.mg "enumerate"=Β)(J:PA X [e] ta)(hs:starEach [e] X.env=[(false,eval e X.env)]:=by rfl):
  PI X Ĵ (.Call (.Name "enumerate" p) [e] [] pos) (afn X.K ta):=by
 intro pins s σ H R I h;apply Call_ (Àq boot_enumerate (Fg (aP (J pos pins s σ H _ I h) λus j ⟨vs,H1,I1,Z,Y⟩=>?_) hs Á));let(a,xs,ex,O,q):=Y;subst ex;cases Z with
 |cons r rr=>
  cases rr;cases r;let(aj,rv,W,hz):=I1.list O;apply call_enumerate_list W.isList λh' z U hsz hk=>RM z ?_;let F:Ã H1 {j with heap:=h'}:=I1.kept (t':=j.toks) hk;apply(j.Z+1,[j.Z+1,j.Z],_,_,H1,Á,F,afm a (j.Z+1) j.Z,⟨⟨.none,z⟩,U,Nat.succ_ne_self _⟩,λb M=>?_,q);let e':b=j.Z+1\/b=j.Z:=À M
  let lX:j.Z<=b:=by
   grind
  exact I1.wO lX Çv
def afo:bootBuiltins "zip"=Α (.type "zip"):=by decide+kernel
def Dg(K:FR)(a b:Addr):It:=
 ⟨λi H=>∃(xs ys:ay)(x y:V),ä a xs/\ä b ys/\xs[i]? =Α x/\ys[i]? =Α y,
  λi H v H'=>∃T x y,v=.ref T/\H T=Β/\H'=upd H T Çx/\(∀xs,ä a xs->xs[i]? =Α x)/\∀ys,ä b ys->ys[i]? =Α y,
  λi H=>∃xs ys:ay,ä a xs/\ä b ys/\(xs.L<=i\/ys.L<=i)⟩
def Uw{z TI TO j F:Addr}(st:IsZip h z TI TO .none/\IsPair h TI (.ref j) (.ref F)/\(∃x y,IsPair h TO x y)/\h.IsListIter j a i/\h.IsListIter F b i):∀b∈[z,TI,TO,j,F],∃o,h.I b=Α o/\∀v,o.data≠ .cell v:=λc hc=>by
 let(hz,tV,(x,y,vF),(Y,U,_,J),(Z,W,_,M)):=st;let O:c=z\/c=TI\/c=TO\/c=j\/c=F:=À hc
 rcases O with rfl|rfl|rfl|rfl|rfl
 .exact(_,hz,λv q=>nomatch q)
 .exact(_,tV,λv q=>nomatch q)
 .exact(_,vF,λv q=>nomatch q)
 .exact(Y,U,λv q=>by rw[J] at q;cases q)
 .exact(Z,W,λv q=>by rw[M] at q;cases q)
def afp{P:Pg}{w:Wd}{K:FR}{oo:List Expr}{kk:Nat}{nN:Pos}{a b z TI TO J M:Addr}(D:ZipApart z TI TO J M a b):
  Turn P w K Ĵ (Dg K a b) [z,TI,TO,J,M] z (λi h=>IsZip h z TI TO .none/\IsPair h TI (.ref J) (.ref M)/\(∃x y,IsPair h TO x y)/\h.IsListIter J a i/\h.IsListIter M b i) where
 mem:=by simp
 obj:=λi h=>Uw
 keep:=λi h h' st k=>by
  let(hz,U,(x,y,Y),W,h2):=st;exact(k z Ä _ hz,k TI Ä _ U,⟨x,y,k TO Ä _ Y⟩,W.at λo q=>k J Ä o q,h2.at λo q=>k M Ä o q)
 item:=by
  show Õ;subst hP hw hK;let ob:=Uw st;let(hz,U,(x0,y0,Y),W,h2):=st;let(xs,ys,x,y,Z,Aw,hx,hy):=hg;let(aj,rv,p,_):=I.list Z;let(oB,Ax,p2,_):=I.list Aw;let(u,hu,ru):=rv.get hx;let(u2,KI,KJ):=Ax.get hy;let si:z<s.Z:=dh hz;apply wpAny_pyNext_zip_item D hz U Y W h2 p.isList p2.isList (x:=u) (y:=u2) (À hu) (À KI) λh' z' TO' K3 h2' hT hsz hk=>?_;apply(_,Á,wpAny_letOwnedTupleGo_zip (s:={s with heap:=h'}) z' λqI z'' O=>?_);let vE:qI.I s.Z=Α {cls:=.type "tuple",data:=.seq #[u,u2]}:=(O.2 _ (u5 si)).R hT;let ⟨I1,n1⟩:=Gc (t':=s.toks) ob hf (λc o F q=>(O.2 c (λj=>F (by simp[j]))).R (hk c o (λj=>F (by simp[j])) (λj=>F (by simp[j])) (λj=>F (by simp[j])) (λj=>F (by simp[j])) q)) I vE ru KJ;exact(.ref s.Z,_,I1,Á,⟨_,x,y,Á,I.aD.fresh (bA _),Á,λl hl=>by rw[I.Cm hl Z];exact hx,λl hl=>by rw[I.Cm hl Aw];exact hy⟩,⟨z'',(O.2 _ D.TIz).R (hk _ _ D.TIz D.TITO D.TIi1 D.TIi2 U),⟨u,u2,(O.2 _ D.TOz).R TO'⟩,K3.at λo q=>(O.2 _ D.i1z).R q,h2'.at λo q=>(O.2 _ D.i2z).R q⟩,n1)
 done:=by
  show Õ;subst hP hw hK;let(hz,U,(x0,y0,Y),W,h2):=st;let(xs,ys,Z,Aw,aft):=hg;let(aj,rv,p,_):=I.list Z;let(oB,Ax,p2,_):=I.list Aw;let l1:=rv.L;let l2:=Ax.L;let he:aj.toArray[i]? =Β\/oB.toArray[i]? =Β:=by
   rcases aft with q|q
   .exact .inl (by simp;symm)
   .exact .inr (by simp;symm)
  exact wpAny_pyNext_zip_end ă D hz U Y W h2 p.isList p2.isList he λh' hk=>⟨Á,I.afa (t':=s.toks) (ch:=[z,TI,TO,J,M]) (λc o F q=>
   hk c o (λj=>F (by simp[j])) (λj=>F (by simp[j])) (λj=>F (by simp[j])) (λj=>F (by simp[j])) q) hf⟩
 self:=λA i s Q E st h=>wpAny_pyIter_zip st.1 h
def afu(K:FR)(ta:TA):TI:=λσ H R=>ta σ H λvs H1=>∃a b xs ys,vs=[.ref a,.ref b]/\aa K H1 a xs/\aa K H1 b ys/\R (Dg K a b) H1
def Ux{X:Cx}{e z:Expr}{ta:TA}{p pos nN:Pos}{oo:List Expr}{kk:Nat}(hg:Gl X "zip")(hm:X.mg "zip"=Β)(ha:PA X [e,z] ta)(hs:starEach [e,z] X.env=(false,eval e X.env)::starEach [z] X.env:=by rfl) (Y:(backTo pos (starEach [z] X.env)).any (·.1)=false:=by rfl):
  PI X Ĵ (.Call (.Name "zip" p) [e,z] [] pos) (afu X.K ta):=by
 intro pins s σ H R I h;apply Call_ (Àq afo (Fg (aP (ha pos pins s σ H _ I h) λus j ⟨vs,H1,I1,r1,q1⟩=>?_) hs Y));let(a,b,xs,ys,ex,M,O,q):=q1;subst ex;cases r1 with
 |cons r F=>
  cases F with
  |cons r' F=>
   cases F;cases r;cases r';let(aj,rv,J,_):=I1.list M;let(oB,Ax,p2,_):=I1.list O;let la:a<j.Z:=J.lt;let lb:b<j.Z:=p2.lt;apply call_zip_2 J.isList p2.isList λh' hz tV vF Z h2 hsz hk=>wpAny_pyIter_zip hz ?_;let U:Ã H1 {j with heap:=h'}:=I1.kept (t':=j.toks) hk;apply(j.Z+4,[j.Z+4,j.Z+2,j.Z+3,j.Z,j.Z+1],_,_,H1,Á,U,afp (PySem.W.ktu_apart j.Z a b la lb),⟨hz,tV,⟨_,_,vF⟩,Z,h2⟩,λc qJ=>?_,q);let e':c=j.Z+4\/c=j.Z+2\/c=j.Z+3\/c=j.Z\/c=j.Z+1:=À qJ
   let lX:j.Z<=c:=by
    grind
   exact I1.wO lX Çv
end L2
namespace Bits
open PySem PyProof.Rows
end Bits
namespace TL
open PySem PySem.Builtin PySem.Builtin.Str PySem.StrLaws
end TL
namespace L2
open PySem PySem.Spec PyProof.Rows
section
variable{X:Cx}{pins:cb}{σ:St}{H:Hp}{s:Sh}{Q:VK}
end
end L2
namespace Att
open PySem PySem.W PySem.Calls PyProof.Rows
end Att
namespace L2
open PySem PySem.Spec PyProof.Rows
abbrev aE:ox:=λ_ _ _ _ _ _=>False
abbrev E0:XK:=λ_ _ _=>False
def tW:vw aE X E0:=λ_ _ _ _ _ _ _ h=>h.elim
structure br(K:FR)(x d8:Str)(st:Stmt)(f:Addr)(fd:FD):Prop where
 ex:∃(oc:Value)(od:OA)(kV jB pm:Value)(an:OA)(aJ ct:Value)(pB:AO),
  fd=PySem.W.fnOf x d8 (vd st) Çd Âj .none kV jB pm an aJ ct/\K.Q f=Α ⟨oc,od,.func fd,pB⟩/\PySem.W.codeIn K aJ d8=true
 kp:PySem.W.keepIn K ď=true
section
variable{P:Pg}{w:Wd}{K:FR}{mg:MG}{base:Heap}
def br.ok{x z:Str}{st:Stmt}{f:Addr}{fd:FD}{N ps:LS}{k:Nat}{sp:Sp}(F:br K x z st f fd)(S:bC N ps Âj)(J:∀(j:Value)(A:Around)(outer:List Env)(s:Sh)(H:Hp)(vs:ay)(Q:VK)(E:XK),eS k (A.deeper (envOfC z Âj s.Z f j))->sp vs H Q E->
   ∃t,l6 (oy aE P w K mg base N z Âj f j A outer s H E).yu Çd t/\t {nx:=λ_ H'=>Q .aO H',rt:=Q} Âq H) (len:∀vs H Q E,sp vs H Q E->vs.L=ps.L:=by intro _ _ _ _ h;first|(cases h;subst_vars;rfl)|(repeat first|(let(rfl,_):=h;rfl)|let(_,h):=h)):Ë (k+1) f fd ps sp:=by
 let(Y,od,kV,W,pm,U,j,ct,Z,rfl,lk,O):=F.ex;apply SZ lk O S len λA outer s H vs Q E hr M=>?_;let(t,h,q):=J j A outer s H vs Q E hr M;exact(t,h.yu,q)
def br.binds{x d8:Str}{st:Stmt}{f:Addr}{fd:FD}{ps:LS}(F:br K x d8 st f fd)(h:∀(kV jB pm:Value)(an:OA)(aJ ct:Value)(us:LV),us.L=ps.L->bindArgs Ġ ⟨us,[]⟩=pure Às):Binds K fd ps []:=by
 let(O,od,kV,jB,pm,an,aJ,ct,q,rfl,lk,j):=F.ex;exact .all (h kV jB pm an aJ ct)
def nO{x d8:Str}{st:Stmt}{f:Addr}{O:Value}{od an:OA}{j:AO}{kV jB pm aJ ct:Value}(l:K.Q f=Α ⟨O,od,.func Ġ,j⟩)(c:PySem.W.codeIn K aJ d8=true) (k:PySem.W.keepIn K ď=true):br K x d8 st f Ġ:=⟨⟨O,od,kV,jB,pm,an,aJ,ct,j,rfl,l,c⟩,k⟩
end
def xk(hr:eS k A):A.units+1<cLine:=qy (abb (by decide:1<=64) _) hr.units
def pv(i:Nat)(j:X.N[i]? =Α x:=by rfl)(q:yp X.env.scope x:=by first|exact Or.inl Á|exact Or.inr (Or.inl Á)|exact Or.inr (Or.inr Á))(hd:(x==("__debug__":Str))=false:=by decide)(z:(x==("__classdict__":Str))=false:=by decide):PE X Àc (ax i):=Sr j q hd z
def oG{A B:Prop}(h:B):if false=true then A else B:=by
 symm
def lp{A B:Prop}(h:A):if true=true then A else B:=by
 symm
def a0{c A B:Prop}[Decidable c](j:c->A)(h2:¬c->B):if c then A else B:=by
 symm
def ai(H H':Hp):Prop:=∀b o,H b=Α o->H' b=Α o
def ai.refl(H:Hp):ai H H:=λ_ _ h=>h
def ai.trans(a:ai H H1)(b:ai H1 H2):ai H H2:=λc o h=>b c o (a c o h)
theorem ai.free(e:ai H H')(h:H' l=Option.none):H l=Option.none:=by
 cases q:H l with
 |none=>rfl
 |some o=>
  rw[e l o q] at h;cases h
def ai.seq{K:FR}{H H':Hp}{a:Addr}{xs:ay}(e:ai H H')(h:ä a xs):aa K H' a xs:=by
 rcases h with (h|⟨o,h⟩)|h
 .exact .inl (.inl (e _ _ h))
 .exact .inl (.inr ⟨o,e _ _ h⟩)
 .exact .inr h
section
variable{κ:Type}[DecidableEq κ]
theorem K4{l:List κ}:∀{k:κ},l.Nodup->¬k∈l->(l++[k]).Nodup:=by
 induction l with
 |nil=>
  intro k _ _;simp
 |cons a r z=>
  intro k h hk;let(j,h2):=kY.mp h;show(a::(r++[k])).Nodup;apply kY.mpr ⟨λm=>?_,z h2 λm=>hk (a8.mpr (Or.inr m))⟩;rcases fu.mp m with q|q
  .exact j q
  .exact hk (a8.mpr (Or.inl (iS.mp q).symm))
end
def ai.made(nx:H x=Option.none)(nd:H dx=Option.none)(k:∀b o,(upd (upd H dx Åu) x Âx) b=Α o->b≠x->H1 b=Α o):ai H H1:=λb o e=>
 k b o (by rw[az (eQ e nx),az (eQ e nd)];exact e) (eQ e nx)
end L2
namespace L2
open PySem PySem.Spec PyProof.Rows PySem.XL
def one(x:Addr)(P:Obj->Prop):HO:=.ext λh=>∃o,h.I x=Α o/\P o
def tX(e:h.I x=Α o)(p:P o):gu Pr w H h x (one x P):=
 ⟨⟨o,e,p⟩,⟨o,e⟩,λ_ _ ⟨o,e,p⟩ k=>⟨o,k o e,p⟩⟩
def qK(aD:fb Pr w H h)(e:H x=Α (one x P)):∃o,h.I x=Α o/\P o:=(aD x _ e).1
def K5(C:Addr)(od:OA)(j:Value)(o:Obj):Prop:=o.cls=.ref C/\o.dict=od/\∃vs,o.data=.fields vs/\vs[1]? =Α j
def exc(C:Addr)(od:OA)(j:Value)(x:Addr):HO:=one x (K5 C od j)
def Uy(fl:Value)(o:Obj):Prop:=∃ts,o.data=.fields ts/\ts[3]? =Α fl
def ent(fl:Value)(T:Addr):HO:=one T (Uy fl)
def vG(d:Addr)(fs:List (Str×V)):HO:=.ext λh=>∃mA,h.Ns1 d mA/\(∀f,k8 Át (mA f))/\Within mA (fs.M (·.1))/\fs.L<=1000
def Uz(n:h.Ns1 d mA)(r:∀f,k8 Át (mA f))(W:Within mA (fs.M (·.1)))(l:fs.L<=1000):gu Pr w H h d (vG d fs):=by
 apply(⟨mA,n,r,W,l⟩,?_,λj h2 ⟨m,n,r⟩ k=>⟨m,n.at k,r⟩);let(o,_,_,e,_):=n;symm
def afv(aD:fb Pr w H h)(e:H d=Α (vG d fs)):∃mA,h.Ns1 d mA/\(∀f,k8 Át (mA f))/\Within mA (fs.M (·.1))/\fs.L<=1000:=(aD d _ e).1
abbrev vH:LV:=[.type "Exception",.type "BaseException",.type "object"]
inductive UA(K:FR)(C N:Addr):Prop
 |mk (od:OA) (nm qn:Str) (bs sub:LV) (sn:LS) (ab:Bool) (col:Option Bool) (e0 e1 e2 e3 e5:Option Value) (_:K.Q C=Α ⟨.type "type",od,.cls ⟨nm,bs,.ref C::vH,N,qn,true,sn,sub,ab,col,false⟩,#[e0,e1,e2,e3,some (.builtin "Exception.__new__"),e5]⟩) (_:PySem.W.nsOkIn K N=true)
structure XC(K:FR)(C N:Addr):Prop where
 cl:UA K C N
 ga:PySem.W.nsIn K N "__getattribute__"=Α none
 gt:PySem.W.nsIn K N "__getattr__"=Α none
 sa:PySem.W.nsIn K N "__setattr__"=Α none
structure Ge(K:FR)(N:Addr)(f:Str):Prop where
 own:PySem.W.nsIn K N f=Α none
 base:typeLookup (.type "Exception") f=pure none
def afw{K:FR}{h:Heap}{N:Addr}{mg:MG}{n:Str}{v:Value}(X:K.In h)(G:h.Ns N mg)(e:PySem.W.nsIn K N n=Α Åo):mg n=Α v:=by
 let(o,es,ep,z,hd,_,j):=G;delta PySem.W.nsIn at e;split at e
 .rename_i c d M J sl q;let:=X _ _ q;rw[z] at this;cases this;cases hd;split at e
  .rename_i y F;rw[<-j];ext nsFind findBy;symm
  .symm
 .cases e
def XC.obj{K:FR}{C N:Addr}(c:XC K C N):∃nm q bs sn sub ab col dd k0 k1 k2 k3 k5,∀h:Heap,K.In h->h.I C=Α (excClassObj nm q C N bs vH true sn sub ab col dd k0 k1 k2 k3 k5 "Exception.__new__")/\h.Ns N (h.nsMap N)/\
  h.nsMap N "__getattribute__"=Β/\h.nsMap N "__getattr__"=Β/\h.nsMap N "__setattr__"=Β:=by
 let(dd,nm,z,bs,sub,sn,ab,col,k0,k1,k2,k3,k5,j,aD):=c.cl;exact(nm,z,bs,sn,sub,ab,col,dd,k0,k1,k2,k3,k5,λh X=>⟨X _ _ j,.of_isNs (PySem.W.isNs_of_in X aD),PySem.W.nsMap_none_of_in X aD c.ga,PySem.W.nsMap_none_of_in X aD c.gt,PySem.W.nsMap_none_of_in X aD c.sa⟩)
def UB(p:K5 C od tv o)(T:Addr):K5 C od ų (o.mapFields (·.setIfInBounds 1 ų)):=by
 let(F,h2,vs,j,J):=p;let z:=(BR.mp J).1;apply((aaU _ _).R F,?_,_,wB j _,by simp[z]);let(c,d,q,sl):=o;cases q <;> first|exact h2|cases j
def Gf(S:LA)(aD:ķ h)(same:∀b,b∉S->H2 b=H b)(J:∀b,b∈S->H b=Β\/∃φ,H b=Α (.ext φ)) (new:∀b,b∈S->∀u,H2 b=Α u->gu P w H2 h2 b u)(keep:∀b o u,H b=Α u->b∉S->h.I b=Α o->h2.I b=Α o):fb P w H2 h2:=λb u q=>by
 by_cases j:b∈S
 .symm
 .rw[same b j] at q;let F:∀c v,H c=Α v->(∀φ,v≠ .ext φ)->c∉S:=λc v e ne z=>by
   grind
  apply(aD b u q).rN (λc v hc g=>?_) (λc e=>?_) λc xs e=>?_
  .grind
  .symm
  .symm
def Gg{fs:LA}{H J:Hp}{h h2:Heap}(S:LA)(same:∀b,b∉S->J b=H b)(U:∀b,b∈S->(H b=Β/\h.I b=Β)\/∃φ,H b=Α (.ext φ))(keep:∀b o,b∉S->b∉fs->h.I b=Α o->h2.I b=Α o) (slot:∀b o,b∉S->b∈fs->h.I b=Α o->∃sl,h2.I b=Α {o with slots:=sl})(there:∀b,b∈S->∀o,h.I b=Α o->∃O,h2.I b=Α O):Un fs [] H J h h2:=by
 let q:∀b o,h.I b=Α o->H b=Β->b∉S:=λb o e n z=>by
  grind
 let j:∀c v,H c=Α v->(∀φ,v≠ .ext φ)->c∉S:=λc v e ne z=>by
  grind
 apply⟨λb o e n F _=>keep b o (q b o e n) F e,λb o e n F _=>slot b o (q b o e n) F e,λb o e n _=>by rw[same b (q b o e n)];exact n,λb o e _=>?_,
  λb xs e=>by rw[same b (j b _ e (λφ z=>by cases z))];exact e,λb o u e=>by rw[same b (j b _ e (λφ z=>by cases z))];exact e,λb ps e=>⟨#[],by rw[same b (j b _ e (λφ z=>by cases z)),e];simp⟩⟩
 by_cases M:b∈S
 .symm
 .grind
def Kp(a:Addr)(H0 H:Hp):Prop:=∀b o,H0 b=Α o->b≠a->H b=Α o
def K7(H0:Hp)(a C:Addr)(od:OA)(H:Hp):Prop:=∃j,H a=Α (exc C od j a)/\Kp a H0 H/\(j=.none\/∃T fl,j=.ref T/\T≠a/\H0 T=Β/\H T=Α (ent fl T))
def sj(fl:Value)(H0:Hp)(a C:Addr)(od:OA)(H:Hp):Prop:=∃T,H a=Α Èg/\Kp a H0 H/\T≠a/\H0 T=Β/\H T=Α (ent fl T)
def sj.at_(f:sj fl H0 a C od H):K7 H0 a C od H:=
 let ⟨T,h1,h2,h3,h4,h5⟩:=f
 ⟨_,h1,h2,.inr ⟨T,fl,rfl,h3,h4,h5⟩⟩
def afx(h:e.frame=e'.frame):noteFrame x e=noteFrame x e':=by
 ext noteFrame PySem.frameOf;rw[h]
def tY{x:Addr}{P:Obj->Prop}{H:Hp}(e:H x=Α (one x P)):∃φ,H x=Α (.ext φ):=⟨_,e⟩
section
variable{X:Cx}{pins:cb}{σ:St}{H H0:Hp}{s:Sh}{A:Around}{E:VP}{a C:Addr}{od:OA}
def Gh{Q:Unit->Shared->Prop}{env en:Env}{outer:List Env}{L:Addr}(rT:X.stack=env::outer)(U:env.frame=Α L)(yJ:en.frame=Α L)(hA:A.frames=Α X.stack)(I:Ã H s)(f:K7 H0 a C od H)(k:∀s' H',Ã H' s'->sj Çb H0 a C od H'->Q () s'):wpAny È A (noteFrame ħ en) Q E s:=by
 rw[afx (yJ.R U.symm)];let(tv,j,kp,f):=f;let(o,ge,pe):=qK I.aD j;let(q1,q2,vs,q3,q4):=id pe;let ff:s.H.FunFrames X.base (env::outer):=by rw[<-rT];exact I.stack
 let Al:A.frames=Α (env::outer):=by rw[<-rT];exact hA
 let UC:pC X.stack=(env::outer).filterMap (·.frame):=by rw[rT];rfl
 rcases f with rfl|⟨T0,fl,rfl,h1,h2,F⟩
 .apply acb (z:=a) Al ff U ge q3 q4 λh' T n=>?_;rw[<-UC] at n;let M:=I.aD.fresh n.new;let gT:=Ry n.new;let Y:=UB pe T;let J:∀b,b∉[a,T]->(Ŵ) b=H b:=λb nb=>by
   let:b≠a/\b≠T:=À nb
   rw[az this.2,az this.1]
  let O:(Ŵ) T=Α ű:=aq;let q:(Ŵ) a=Α Èg:=by rw[az (eE n.ne),aq]
  let(oT,ts,t1,t2,t3):=n.ent;let yK:H0 T=Β:=by
   cases e:H0 T with
   |none=>rfl
   |some u=>rw[kp T u e n.ne] at M;cases M
  apply k {s with heap:=h'} Ŵ (I.wM (s':={s with heap:=h'}) (ch:=[]) Á (Gg [a,T] J ē Ť Ť λb hb o g=>?_) (Gf [a,T] I.aD J ē Àd λb o u hb nb g=>?_) I.bare ļ)
   ⟨T,q,λb o e nb=>?_,n.ne,yK,O⟩
  .let:b=a\/b=T:=by simpa using hb
   rcases this with rfl|rfl
   .exact .inr (tY j)
   .symm
  .let:b≠a/\b≠T:=by simpa using nb
   exact n.keep b o nf this.1 this.1 g
  .let:b≠a/\b≠T:=by simpa using nb
   exact n.slot b o nf this.1 this.1 g
  .let:b=a\/b=T:=by simpa using hb
   rcases this with rfl|rfl
   .exact(_,n.exc)
   .symm
  .let:b=a\/b=T:=by simpa using hb
   rcases this with rfl|rfl
   .exact .inr (tY j)
   .symm
  .let:b=a\/b=T:=by simpa using hb
   rcases this with rfl|rfl
   .rw[q] at hu;cases hu;exact tX n.exc Y
   .rw[O] at hu;cases hu;exact tX t1 ⟨ts,t2,t3⟩
  .let:b≠a/\b≠T:=by simpa using nb
   exact n.keep b o (λz=>by rw[I.Fz b z] at hb;cases hb) this.1 this.1 g
  .rw[az (λz=>by simp_all),az nb];exact kp b o e nb
 .cases W:(fl==rawInt L) with
  |false=>
   let(oz,gz,zs,Z,z3):=qK I.aD F;apply acd Al ff U ge q3 q4 gz Z z3 W h1 λh' T n tz kz=>?_;rw[<-UC] at n;let M:=I.aD.fresh n.new;let gT:=Ry n.new;let Y:=UB pe T;let J:∀b,b∉[a,T,T0]->(ç) b=H b:=λb nb=>by
    let:b≠a/\b≠T/\b≠T0:=À nb
    rw[az this.2.1,az this.1,az this.2.2]
   let O:(ç) T=Α ű:=aq;let q:(ç) a=Α Èg:=by rw[az (eE n.ne),aq]
   let hT0:(ç) T0=Α (ent .none T0):=by rw[az (eE tz),az h1];exact aq
   let(oT,ts,t1,t2,t3):=n.ent;let(oz',zs',z1',z2',z3'):=kz;let yK:H0 T=Β:=by
    cases e:H0 T with
    |none=>rfl
    |some u=>rw[kp T u e n.ne] at M;cases M
   apply k {s with heap:=h'} ç (I.wM (s':={s with heap:=h'}) (ch:=[]) Á (Gg [a,T,T0] J ē Ť Ť λb hb o g=>?_) (Gf [a,T,T0] I.aD J ē Àd λb o u hb nb g=>?_) I.bare ļ)
    ⟨T,q,λb o e nb=>?_,n.ne,yK,O⟩
   .let:b=a\/b=T\/b=T0:=by simpa using hb
    rcases this with rfl|rfl|rfl
    .exact .inr (tY j)
    .symm
    .exact .inr (tY F)
   .let:b≠a/\b≠T/\b≠T0:=by simpa using nb
    exact n.keep b o nf this.1 this.2.2 g
   .let:b≠a/\b≠T/\b≠T0:=by simpa using nb
    exact n.slot b o nf this.1 this.2.2 g
   .let:b=a\/b=T\/b=T0:=by simpa using hb
    rcases this with rfl|rfl|rfl
    .exact(_,n.exc)
    .symm
    .symm
   .let:b=a\/b=T\/b=T0:=by simpa using hb
    rcases this with rfl|rfl|rfl
    .exact .inr (tY j)
    .symm
    .exact .inr (tY F)
   .let:b=a\/b=T\/b=T0:=by simpa using hb
    rcases this with rfl|rfl|rfl
    .rw[q] at hu;cases hu;exact tX n.exc Y
    .rw[O] at hu;cases hu;exact tX t1 ⟨ts,t2,t3⟩
    .rw[hT0] at hu;cases hu;exact tX z1' ⟨zs',z2',z3'⟩
   .let:b≠a/\b≠T/\b≠T0:=by simpa using nb
    exact n.keep b o (λz=>by rw[I.Fz b z] at hb;cases hb) this.1 this.2.2 g
   .rw[az (λz=>by simp_all),az nb,az (λz=>by simp_all)];exact kp b o e nb
  |true=>
   let W:=eq_of_beq W;subst W;let(oz,gz,zs,Z,z3):=qK I.aD F;exact wpAny_noteFrame_inFlight U ge q3 q4 gz Z z3 (k s H I ⟨T0,j,kp,h1,h2,F⟩)
def Di{Q:Unit->Shared->Prop}{fl:Value}(fr:OA)(I:Ã H s)(f:sj fl H0 a C od H)(k:∀s' H',Ã H' s'->sj (fr.elim .none λf=>rawInt f) H0 a C od H'->Q () s'):wpAny È A (setFlight ħ fr) Q E s:=by
 let(T,U,kp,aL,Y,q):=f;let(o,W,q1,q2,vs,q3,q4):=qK I.aD U;let(oz,M,zs,j,z3):=qK I.aD q;let Z:3<zs.u:=(BR.mp z3).1;ext setFlight;apply aF (wC W q3 q4 ?_);rw[ah (show(Value.ref T !=Value.none)=true by simp)];apply Fd M j Z ?_;let F:∀b,b≠T->(s.H.update T (Obj.mapFields (·.setIfInBounds 3 (fr.elim .none λf=>rawInt f)))).I b=s.U b:=λb n=>kW _ _ (eE n);let J:(s.H.update T (Obj.mapFields (·.setIfInBounds 3 (fr.elim .none λf=>rawInt f)))).I T=_:=u6 _ M (Jy (wB j _));let pT:Uy (fr.elim .none λf=>rawInt f) (oz.mapFields (·.setIfInBounds 3 (fr.elim .none λf=>rawInt f))):=⟨_,wB j _,by simp[Z]⟩;let O:∀b,b∉[T]->(upd H T (ent (fr.elim .none λf=>rawInt f) T)) b=H b:=λb nb=>by
  let:b≠T:=À nb
  rw[az this]
 apply k {s with heap:=s.H.update T (Obj.mapFields (·.setIfInBounds 3 (fr.elim .none λf=>rawInt f)))} (upd H T (ent (fr.elim .none λf=>rawInt f) T)) (I.wM (s':={s with heap:=s.H.update T (Obj.mapFields (·.setIfInBounds 3 (fr.elim .none λf=>rawInt f)))}) (ch:=[]) Á (Gg [T] O ē Ť Ť λb hb o g=>?_) (Gf [T] I.aD O ē Àd λb o u hb nb g=>?_) I.bare ļ)
   ⟨T,?_,λb o e nb=>?_,aL,Y,aq⟩
 .let:b=T:=by simpa using hb
  subst this;exact .inr (tY q)
 .let:b≠T:=by simpa using nb
  exact(F b this).R g
 .let:b≠T:=by simpa using nb
  exact(o.slots,(F b this).R g)
 .let:b=T:=by simpa using hb
  subst this;exact(_,J)
 .let:b=T:=by simpa using hb
  subst this;exact .inr (tY q)
 .let:b=T:=by simpa using hb
  subst this;rw[aq] at hu;cases hu;exact tX J pT
 .let:b≠T:=by simpa using nb
  exact(F b this).R g
 .rw[az Æc];exact U
 .rw[az (λz=>by rw[z,Y] at e;cases e)];exact kp b o e nb
end
def gw(P:Pg)(w:Wd):ox:=λouter H s E e s'=>∃a C od H0 H',e=.ref a/\s'.os=s.os/\AllBare s'.gens/\Un (pC outer) [] H H' s.H s'.H/\fb P w H' s'.H/\sj .none H0 a C od H'/\(∀d,od=Α d->d≠a)/\E Ĉ od H0
def Ay(X:Cx)(E:XK)(e:Value)(s:Sh):Prop:=∃a C od H0 H σ,e=.ref a/\Inv X [] σ H s/\K7 H0 a C od H/\(∀d,od=Α d->d≠a)/\E Ĉ od H0
abbrev Cx.yL(X:Cx)(E:XK):Cx:=X.i5 (Ay X E)
def Cx.Gj(X:Cx):Prop:=X.stack=X.env::X.outer/\X.env.frame=Α X.env.locals
def Inv.K9(I:Ã H s):Inv X [] σ H s:=I.J7 λp j=>absurd j Ä
def sk{X:Cx}{E:XK}:vw (gw X.prog X.w) (X.yL E) E:=λpins σ H s e s' I h=>by
 let(a,C,od,H0,H',j,q,F,J,M,O,U,W):=h;exact(a,C,od,H0,H',σ,j,(I.nB.wM (ch:=[]) q J M F ļ).K9,O.at_,U,W)
def UD(O:X.Gj):PassesOwn È X.A X.env (Ay X E):=λe s h=>by
 let(a,C,od,H0,H,σ,rfl,I,f,J,M):=h;apply Gh O.1 O.2 O.2 I.ok.frames I f λs' H' j F=>?_;let(T,W,_):=id F;let(o,U,q1,q2,vs,Z,q4):=qK j.aD W;apply aF (wC U Z q4 ?_);rw[ag (show ¬(Value.ref T==Value.none)=true from eN)];apply Di X.env.frame j F λCy Y q z=>?_;exact(a,C,od,H0,Y,σ,Á,q,z.at_,J,M)
def yM{CX:ox}{P:Pg}{w:Wd}{K:FR}{mg:MG}{base:Heap}{N:LS}{d8:Str}{j:Scope}{f:Addr}{q:Value}{A:Around}{outer:List Env}{s:Sh}{H:Hp}{E:XK}:
  (Ķ j f q A outer s H E).Gj:=⟨rfl,rfl⟩
def afD{P:Pg}{w:Wd}{K:FR}{mg:MG}{base:Heap}{N:LS}{F:Str}{j:Scope}{f:Addr}{z:Value}{A:Around}{outer:List Env}{s:Sh}{H:Hp}{E:XK}{e:Value}{J:Sh}(h:Ay (oy Ē P w K mg base N F j f z A outer s H E) E e J):(oy Ē P w K mg base N F j f z A outer s H E).xe e J:=by
 let(a,C,od,H0,H1,σ,rfl,I,f,U,W):=h;show wpAny _ _ (leaving _ _) _ _ J;ext leaving;apply aF (Gh (X:=oy Ē P w K mg base N F j _ z A outer s H E) yM.1 yM.2 yM.2 I.ok.frames I f λs' H' M Y=>?_);apply Di (X:=oy Ē P w K mg base N F j _ z A outer s H E) none M Y λCy Z q O=>?_;exact(a,C,od,H0,Z,Á,q.os,q.bare,q.base,q.aD,O,U,W)
def br.qL{P:Pg}{w:Wd}{K:FR}{mg:MG}{base:Heap}{x J:Str}{st:Stmt}{f:Addr}{fd:FD}{N ps:LS}{k:Nat}{sp:Sp}(F:br K x J st f fd)(S:bC N ps Âj)(M:∀(j:Value)(A:Around)(outer:List Env)(s:Sh)(H:Hp)(vs:ay)(Q:VK)(E:XK),eS k (A.deeper (envOfC J Âj s.Z f j))->sp vs H Q E->
   ∃t,l6 ((oy Ē P w K mg base N J Âj f j A outer s H E).yL E) Çd t/\t {nx:=λ_ H'=>Q .aO H',rt:=Q} Âq H) (len:∀vs H Q E,sp vs H Q E->vs.L=ps.L:=by intro _ _ _ _ h;first|(cases h;subst_vars;rfl)|(repeat first|(let(rfl,_):=h;rfl)|let(_,h):=h)):Ģ Ē (k+1) f fd ps sp:=by
 let(oc,od,kV,jB,pm,Z,j,ct,pB,rfl,lk,W):=F.ex;apply SZ lk W S len λA outer s H vs Q E hr U=>?_;let(t,h,q):=M j A outer s H vs Q E hr U;exact(t,λpins Y σ H1 D I O=>jD (h pins Y σ H1 D (I.i5 _) O) (λ_ _ q=>q.nB) λe s2 z=>afD z,q)
def afE(E:XK)(C:Addr)(te:TE):TS:=λ_ σ H=>te σ H λv H1=>∃a od,v=.ref a/\H1 a=Α (exc C od .none a)/\(∀d,od=Α d->d≠a)/\E Ĉ od H1
def i7{X:Cx}{E:XK}{e:Expr}{te:TE}{C N:Addr}{pos:Pos}(O:X.A.handled=Β)(c:XC X.K C N)(M:PE (X.yL E) e te):PS (X.yL E) (.Raise (some e) none pos) (afE E C te):=by
 intro pins s σ H D I h;let(nm,q,bs,sn,sub,ab,col,dd,k0,k1,k2,k3,k5,cls):=c.obj;rw[arm_exec_Raise];refine aF (RH (ab9 (C:=C) (nm:=nm) (q:=q) (N:=N) (bs:=bs) (bm:=vH) (hdct:=true) (sn:=sn) (sub:=sub) (ab:=ab) (col:=col) (dd:=dd) (k0:=k0) (k1:=k1) (k2:=k2) (k3:=k3) (k5:=k5) (newId:="Exception.__new__") Ñ O
  (aF (aP (M pins s σ H _ I h) λu s1 ⟨v,H1,j,Z,a,od,F,z,hd,xr⟩=>aF (RH (cV ?_))))))
 subst F;obtain rfl:u=Value.ref a:=Z;let(o,J,U,q2,vs,W,Y):=qK j.aD z;exact(a,o,vs,Á,(cls _ j.gD).1,J,U,W,Y,a,C,od,H1,H1,σ,Á,j.nB.K9,⟨.none,z,λb o e _=>e,.inl Á⟩,hd,xr)
def Inv.Gk{X:Cx}{pins:cb}{σ:St}{H q:Hp}{s:Sh}{h2:Heap}{t2:Nat}(S:LA)(I:Ã H s)(same:∀b,b∉S->q b=H b)(J:∀b,b∈S->(H b=Β/\s.U b=Β)\/∃φ,H b=Α (.ext φ)) (new:∀b,b∈S->∀u,q b=Α u->Àf q h2 b u)(keep:∀b o,b∉S->s.U b=Α o->h2.I b=Α o) (there:∀b,b∈S->∀o,s.U b=Α o->∃O,h2.I b=Α O):Ã q {s with heap:=h2,toks:=t2}:=
 I.wM (s':={s with heap:=h2,toks:=t2}) (ch:=[]) rfl (Gg S same J (λb o j _ g=>keep b o j g) (λb o j _ g=>⟨o.slots,keep b o j g⟩) there)
  (Gf S I.aD same (λb F=>(J b F).imp (·.1) id) new λb o u _ j g=>keep b o j g) I.bare ļ
def Lb{K:FR}{C N:Addr}(c:XC K C N):PySem.W.nsOkIn K N=true:=by
 let(_,_,_,_,_,_,_,_,_,_,_,_,_,_,h):=c.cl;exact h
def afF{K:FR}{h:Heap}{f:Addr}(XK:K.In h)(j:PySem.W.isFn K ď=true):∃o,h.I f=Α o/\o.cls=.type "function":=by
 let e:=zS.mp j;delta PySem.W.typeIn at e;cases q:K.Q f with
 |none=>
  symm
 |some o=>
  simp only[q] at e;exact(o,XK _ _ q,aQ e)
def afG(C:Addr)(sp:Sp)(J:ay)(E:XK)(t:TA):TE:=λσ H Q=>t σ H λvs H1=>vs.L<=sizeLine/\∀x,H1 x=Β->
 sp (.ref x::(vs++J)) (upd H1 x Ś) (λv j=>v=.aO/\Q ŧ j) E
def afH{pins:cb}{σ:St}{H:Hp}{s:Sh}{Q:VK}{U:LV}{vs:ay}(c:XC X.K C N)(mI:PySem.W.nsIn X.K N "__init__"=Α Âr)(fn:PySem.W.isFn X.K ď=true)(F:ý CX k f fd ps sp)(hr:eS (k+1) X.A)(hb:ŉ ds)(hd:bp jk ds)(hx:vw CX X E) (I:Ã H s) (r:bp vs U) (qM:vs.L<=sizeLine)(h:∀x,H x=Β->sp (.ref x::(vs++jk)) (upd H x Ś) (λv H2=>v=.aO/\Q ŧ H2) E):
  wpAny È X.A (call Ĉ U) (ô Q) X.xe s:=by
 let(nm,q,bs,sn,sub,ab,col,dd,k0,k1,k2,k3,k5,cls):=c.obj;let(c1,O,_):=cls s.H I.gD;let(oF,gF,cF):=afF I.gD fn;let yn:=afw I.gD O mI;let Y:=h Û (I.aD.fresh (Fi _));let g2:((s.o (pA U)).push Ãa).I Û=Α Ãa:=by
  let z:=ia (s.o (pA U)) (o:=rL C s.Z) rfl;symm
 let J:Ã (upd H Û (exc C none .none Û)) {s with heap:=(s.o (pA U)).push Ãa}:=
  I.laid (t':=s.toks) (λb u q=>du _ (du _ q)) (Fi _) (tX g2 ⟨rfl,rfl,_,rfl,rfl⟩)
 let Z:bp (V.ref Û::(vs++jk)) (Value.ref Û::(U++ds)):=.cons rfl (r.append hd);let hl:(Value.ref Û::U++ds).L=ps.L:=by
  let e:=Z.L;rw[F.len _ _ _ _ Y] at e;symm
 let(M,g,d,tk,os):=s;refine Fc (ab8 PySem.F.excBase_Exception c1 O yn gF cF (yf (F.run _ X.stack _ _ ⟨Value.ref (M.O+1)::U,[]⟩ (Value.ref (M.O+1)::(U++ds)) _ _ E (hr.make C U [])
  (J.Cw.make C U []) (hb _ (Value.ref (M.O+1)::U) J.gD hl) Z Y) λr s' j=>?_) (by rw[<-r.L];exact qM))
 cases r with
 |error e=>exact hx pins σ _ _ e s' J j
 |ok fl=>
  cases fl with
  |ret u=>
   let(v,H',I3,rv,ev,q3):=J.after j;subst ev;exact(rv,⟨V.ref (M.O+1),H',I3,Á,q3⟩)
  |next=>exact False.elim j
  |brk=>exact False.elim j
  |cont=>exact False.elim j
def Gm(c:XC X.K C N)(mI:PySem.W.nsIn X.K N "__init__"=Α Âr)(fn:PySem.W.isFn X.K ď=true)(kp:PySem.W.keepIn X.K Ĉ=true)(F:ý CX k f fd ps sp)(hr:eS (k+1) X.A)(O:Gl X x)(U:X.mg x=Α Ĉ)(J:ŉ ds)(hd:bp jk ds)(Y:vw CX X E)(z:PA X (e::es) t) (Z:(x==("__debug__":Str))=false:=by decide) (M:starEach (e::es) X.env=(false,eval e X.env)::starEach es X.env:=by rfl) (j:(backTo pos û).any (·.1)=false:=by rfl):
  PE X (.Call Ϗ (e::es) [] pos) (afG C sp jk E t):=by
 show Ú;apply zT (yr I O U ?_ Z);refine PySem.W.callWith_K (h₀:=X.base) I.ok.mod.wJ kp (aP (z pos pins s σ H _ I h) λus s1 ⟨vs,H1,I1,r,q⟩=>Äj) M j;exact afH c mI fn F hr J hd Y I1 r q.1 q.2
def afI(K:FR)(t:TA):TE:=λσ H Q=>t σ H λvs H1=>∃a C N od j,vs=[.ref a]/\H1 a=Α (exc C od j a)/\XC K C N/\Q .aO H1
def afJ{pl:Sem Bool}(hg:Gl X "Exception")(hm:X.mg "Exception"=Β)(hf:PySem.W.findCls X.K (.type "Exception") (.type "type") "__init__"=Α (.val (.builtin "Exception.__init__")))(ha:PA X (e::es) t)(tO:typeOf (.type "Exception")=pure (.type "type")) (rT:Manifest.isStub "Exception"=false) (M:bootBuiltins "Exception"=Α (.type "Exception"))(he:starEach (e::es) X.env=(false,eval e X.env)::starEach es X.env:=by rfl) (dY:(backTo pos û).any (·.1)=false:=by rfl)(ht:eval (.Call (.Attribute (.Name "Exception" p) "__init__" jf) (e::es) [] pos) X.env=(do
   let Y <-eval (.Name "Exception" p) X.env
   standAt jf.atName
   let (f,first) <-holding [Y] (getMethod Y "__init__" pl)
   callWith pos f first (backTo pos (starEach (e::es) X.env)) (backToKw pos Ϲ)):=by rfl):
  PE X (.Call (.Attribute (.Name "Exception" p) "__init__" jf) (e::es) [] pos) (afI X.K t):=by
 show Ú;apply PySem.W.methodCall_KW (pl:=pl) (Àq M ?_) ht;let(m,F):=I.fr;apply PySem.W.method_type F I.ok.mod.wJ tO rT hf Ð ?_;apply atz (aP (ha pos pins _ σ H _ (I.tok _) h) λus s1 ⟨vs,H1,J,r1,a,C,N,od,tv,ev,z,c,q⟩=>?_) he dY;subst ev;let(u,rfl,ru):=vals1 r1;cases ru;let(nm,qn,bs,sn,sub,ab,col,dd,k0,k1,k2,k3,k5,cls):=c.obj;let(c1,c2,_):=cls s1.H J.gD;let(o,U,Z,q2,AA,j,q4):=qK J.aD z;let zz:=(BR.mp q4).1;let(O,g,d,tk,os):=s1;apply aca PySem.F.excBase_Exception c1 U Z j Î ?_;let gp:=du (h:=O) (pA []) U;let gx:((O.push (pA [])).update a (Obj.mapFields (·.setIfInBounds 0 (.ref O.O)))).I a=_:=u6 _ gp (Jy (wB j _));apply(.aO,H1,J.Gk (t2:=tk) [a] (λb _=>Á) ē Àd Æv λb hb o g=>?_,Á,q)
 .let:b=a:=by simpa using hb
  subst this;exact .inr (tY z)
 .let:b=a:=by simpa using hb
  subst this;rw[z] at hu;cases hu;apply tX gx ⟨(aaU _ _).R Z,?_,_,wB j _,?_⟩
  .let(cc,cd,dt,sl):=o;cases dt <;> first|exact q2|cases j
  .symm
 .let:b≠a:=by simpa using nb
  rw[kW _ _ (eE this)];exact du _ g
 .symm
def afL(K:FR)(ta q:TE)(g:Str):TS:=λD σ H=>q σ H λy H1=>ta σ H1 λv j=>∃a C N te,v=.ref a/\j a=Α (exc C none te a)/\XC K C N/\Ge K N g/\
 ∀d,j d=Β->d≠a->D.nx σ (upd (upd j a (exc C (some d) te a)) d (vG d (iE g y [])))
def afM{g:Str}{O:Expr}{mz:Pos}(ha:PE X o ta)(hv:PE X O tv)(hs:swapsWith O (some (.Attribute o g mz)) pos.line X.env=pure false):PS X (.Assign [.Attribute o g mz] O pos) (afL X.K ta tv g):=by
 intro pins s σ H D I h;apply aa3 (aP (hv pins s σ H _ I h) λu s1 ⟨y,H1,I1,ry,q⟩=>aP (ha pins s1 σ H1 _ I1 q) λov U ⟨x,Y,J,rx,a,C,N,te,ex,ea,c,n,q2⟩=>?_) hs;subst ex;obtain rfl:ov=Value.ref a:=rx;let(nm,qn,bs,sn,sub,ab,col,dd,k0,k1,k2,k3,k5,cls):=c.obj;let(c1,c2,c3,c4,c5):=cls U.H J.gD;let(o,ge,p1,p2,AA,p3,p4):=qK J.aD ea;let vg:U.H.nsMap N g=Β:=PySem.W.nsMap_none_of_in J.gD (Lb c) n.own;let(j,gg,dr,tk,os):=U;apply acj PySem.F.store_Exception c1 c2 c5 vg n.base ge p1 (λc z=>(by rw[p3] at z;cases z)) p2 λh' mU w1 w2 w3=>?_;let dn:Y j.O=Β:=J.aD.fresh (bA _);let Z:j.O≠a:=u5 (dh ge);let e1:(upd (upd Y a (exc C (some j.O) te a)) j.O (vG j.O (iE g y []))) a=Α (exc C (some j.O) te a):=by rw[az (eE Z),aq]
 apply(σ,_,J.Gk (h2:=h') (t2:=mU) [a,j.O] (λb nb=>?_) ē (λb hb u' M=>?_) Æv (λb hb o g=>?_),q2 j.O dn Z)
 .let:b≠a/\b≠j.O:=by simpa using nb
  rw[az this.2,az this.1]
 .let:b=a\/b=j.O:=by simpa using hb
  rcases this with rfl|rfl
  .exact .inr (tY ea)
  .exact .inl ⟨dn,Ry (bA _)⟩
 .let:b=a\/b=j.O:=by simpa using hb
  rcases this with rfl|rfl
  .rw[e1] at M;cases M;exact tX w2 ⟨p1,Á,AA,p3,p4⟩
  .rw[aq] at M;cases M;apply Uz w1 (λf=>?_) (λz hz=>?_) (by show 1<=1000;decide)
   .rw[Ku];by_cases e:f=g
    .rw[ah e,ah e];exact ry
    .rw[ag e,ag e];exact True.intro
   .by_cases e:z=g
    .rw[e];exact(Cv g y []).1
    .rw[ag e] at hz;exact absurd Á hz
 .let:b≠a/\b≠j.O:=by simpa using nb
  exact w3 b o this.1 g
 .let:b=a\/b=j.O:=by simpa using hb
  rcases this with rfl|rfl
  .exact(_,w2)
  .exact absurd (dh g) (nq _)
def afN(K:FR)(ta q:TE)(g:Str):TS:=λD σ H=>q σ H λy H1=>ta σ H1 λv j=>∃a C N d te fs,v=.ref a/\j a=Α (exc C (some d) te a)/\d≠a/\j d=Α (vG d fs)/\fs.L<1000/\XC K C N/\Ge K N g/\
 D.nx σ (upd j d (vG d (iE g y fs)))
def afO{g:Str}{J:Expr}{U:Pos}(ha:PE X o ta)(hv:PE X J tv)(hs:swapsWith J (some (.Attribute o g U)) pos.line X.env=pure false):PS X (.Assign [.Attribute o g U] J pos) (afN X.K ta tv g):=by
 intro pins s σ H D I h;apply aa3 (aP (hv pins s σ H _ I h) λu s1 ⟨y,H1,I1,ry,q⟩=>aP (ha pins s1 σ H1 _ I1 q) λov Y ⟨x,H2,j,rx,a,C,N,d,te,fs,ex,ea,ne,M,fl,c,n,q2⟩=>?_) hs;subst ex;obtain rfl:ov=Value.ref a:=rx;let(nm,qn,bs,sn,sub,ab,col,dd,k0,k1,k2,k3,k5,cls):=c.obj;let(c1,c2,c3,c4,c5):=cls Y.H j.gD;let(o,ge,p1,p2,AA,p3,p4):=qK j.aD ea;let(mA,nA,rA,Z,lA):=afv j.aD M;let vg:=PySem.W.nsMap_none_of_in j.gD (Lb c) n.own;let aC:a≠C:=λz=>by
  grind
 let(hh,gg,dr,tk,os):=Y;let lz:(fs.M (·.1)).L<=sizeLine:=by rw[ak,yg];lia
 apply ack PySem.F.store_Exception c1 c2 c5 vg n.base ge p1 (λc z=>Å) p2 ne nA Z lz aC λh' mU w1 w3=>?_;apply(σ,_,j.Gk (h2:=h') (t2:=mU) [d] (λb nb=>?_) ē (λb hb u' O=>?_) Æv (λb hb o g=>?_),q2)
 .let:b≠d:=by simpa using nb
  rw[az this]
 .let:b=d:=by simpa using hb
  subst this;exact .inr ⟨_,M⟩
 .let:b=d:=by simpa using hb
  subst this;rw[aq] at O;cases O;apply Uz w1 (λf=>?_) (λz hz=>?_) (gn (Kw g y fs) fl)
  .rw[Ku];by_cases e:f=g
   .rw[ah e,ah e];exact ry
   .symm
  .by_cases e:z=g
   .rw[e];exact(Cv g y fs).1
   .rw[ag e] at hz;exact(Cv g y fs).2 z (Z z hz)
 .symm
 .let:b=d:=by simpa using hb
  subst this;let(o',_,_,e',_):=w1;symm
abbrev Cx.so(X:Cx)(a:Addr):Cx:={X with A:=X.A.mark (some ħ),calm:=false,xe:=λ_ _=>False}
def Cx.Ok.so{X:Cx}(ok:X.Ok)(a:Addr):(X.so a).Ok:=
 ⟨ok.mod,ok.kind,ok.glob,ok.blt,ok.above,ok.inj,ok.has,ok.Ac,λh=>(by cases h),ok.frames,ok.Ce,ok.Cf,ok.bs,ok.rP,ok.Ad,ok.Ae,ok.pE,ok.wK⟩
def Inv.so{X:Cx}{pins:cb}{σ:St}{H:Hp}{s:Sh}(I:Ã H s)(a:Addr):Inv (X.so a) pins σ H s:=⟨I.ok.so a,I.os,I.bare,I.base,I.loc,I.cell,I.free,I.nu,I.pin,I.aD,I.len⟩
def Inv.AB(ok:X.Ok)(I:Inv (X.so a) pins σ H s):Ã H s:=⟨ok,I.os,I.bare,I.base,I.loc,I.cell,I.free,I.nu,I.pin,I.aD,I.len⟩
def afP{M:Model}{A:Around}{E:VP}{nm q Z q':Str}{C N C1 N1:Addr}{bs UF:LV}{hdct j:Bool}{sn UG:LS}{sub UH:LV}{ab UI:Bool}{col UJ:Option Bool}{dd tU:OA}{k0 k1 k2 k3 k5 UK UL UM UN UO:Option Value}{newId z:String}{h:Heap} {g:Array GenState} {d:Drawn} {t:Nat} {os:OsState} {e:Addr} {O:Obj} {Q:Bool->Shared->Prop}(F:h.I C=Α (excClassObj nm q C N bs vH hdct sn sub ab col dd k0 k1 k2 k3 k5 newId)) (U:h.I C1=Α (excClassObj Z q' C1 N1 UF vH j UG UH UI UJ tU UK UL UM UN UO z))(he:h.I e=Α O) (J:O.cls=.ref C) (ne:C≠C1)(hq:Q false ⟨h,g,d,t,os⟩):ϐ (excMatches Ém (.ref C1)) Q E ⟨h,g,d,t,os⟩:=by
 let W:(Value.ref C1::vH).Y (.type "BaseException")=true:=by rw[BQ,show vH.Y (.type "BaseException")=true by decide,aaT]
 let Y:(Value.ref C::vH).Y (.ref C1)=false:=by
  grind
 let f:=tc_notTuple;ext excMatches
 repeat (first|(with_reducible apply u4 he ?_;rw[J])|with_reducible apply u4 U ?_|with_reducible apply u4 F ?_|(with_reducible apply Rv U ?_;rw[W])|(with_reducible apply Rv F ?_;rw[Y])|wp_step)
 exact hq
abbrev TH:=Hp->Addr->Addr->OA->TS
def PH(X:Cx)(j:List ExceptHandler)(th:TH):Prop:=
 ∀(pins:cb)(s:Sh)(σ:St)(H H0:Hp)(a C N:Addr)(od:OA)(D:Ends),Ã H s->XC X.K C N->sj .none H0 a C od H->th H0 a C od D σ H->
  wpAny È X.A (handleBy ħ X.env j) Æe X.xe s
def afS:TH:=λ_ _ _ _ _ _ _=>False
def UQ:PH X [] afS:=λ_ _ _ _ _ _ _ _ _ _ _ _ _ h=>h.elim
def afT(C1:Addr)(ts:TS)(th:TH):TH:=λH0 a C od D σ H=>(C=C1->∀H',sj .none H0 a C od H'->ts D σ H')/\(C≠C1->th H0 a C od D σ H)
theorem SP.AB(ok:X.Ok)(h:SP (X.so a) pins D f s'):SP X pins D f s':=by
 cases f with
 |next=>let(σ',H',I,q):=h;exact(σ',H',I.AB ok,q)
 |brk=>let(σ',H',I,q):=h;exact(σ',H',I.AB ok,q)
 |cont=>let(σ',H',I,q):=h;exact(σ',H',I.AB ok,q)
 |ret u=>let(v,σ',H',I,r,q):=h;exact(v,σ',H',I.AB ok,r,q)
section
variable{X:Cx}{C1 N1:Addr}{x:Str}{p pos:Pos}{b0:Stmt}{UR:List Stmt}{b7:List ExceptHandler}{ts:TS}{th:TH}
def xm(U:XC X.K C1 N1)(hg:Gl X x)(hm:X.mg x=Α (.ref C1))(hs:∀a,l6 (X.so a) (b0::UR) ts)(hr:PH X b7 th)(j8:(x==("__debug__":Str))=false:=by decide):
  PH X (.ExceptHandler (some Ϗ) none (b0::UR) pos::b7) (afT C1 ts th):=by
 intro pins s σ H H0 a C N od D I c f h;apply wpAny_handleBy_cons (codeAny_handlers_test (yr (X:=X.so a) (I.so a) hg hm ?_ j8)) (by intro q;cases q);let(nm,qn,bs,sn,sub,ab,col,dd,k0,k1,k2,k3,k5,cls):=c.obj;let(UE,qn',UF,UG,UH,UI,UJ,tU,UK,UL,UM,UN,UO,j):=U.obj;let(J,_):=cls s.H I.gD;let(W,_):=j s.H I.gD;let(T,Z,kp,ne,yK,hT):=id f;let(o,M,O,q2,AA,q3,q4):=qK I.aD Z;by_cases e:C=C1
 .subst e;let(hh,g,d,tk,os):=s;apply wpAny_excMatches_sub_self J M O Ñ ?_;apply codeAny_handlers_suite ?_;apply Di (X:=X) none I f λs' H' F Y=>?_;refine jD (hs a pins s' σ H' D (F.so a) (h.1 Á H' Y)) (λfl s2 q=>q.AB F.ok) λ_ _ z=>False.elim z
 .let(hh,g,d,tk,os):=s;apply afP J W M O e ?_;exact hr pins _ σ H H0 a C N od D I c f (h.2 e)
end
def US(X:Cx)(j:List Stmt)(tb:XK->TS):Prop:=
 ∀(pins:cb)(s:Sh)(σ:St)(H:Hp)(D:Ends)(E:XK),Ã H s->tb E D σ H->wpAny È X.A (execs j X.env) Æe
  (λe s'=>∃a C od H0 H',e=.ref a/\Ã H' s'/\sj .none H0 a C od H'/\(∀d,od=Α d->d≠a)/\E Ĉ od H0) s
def afV(K:FR)(th:TH)(D:Ends)(σ:St):XK:=λj od H0=>∃C N,j=.ref C/\XC K C N/\∀a H',(∀d,od=Α d->d≠a)->sj .none H0 a C od H'->th H0 a C od D σ H'
def afW(K:FR)(tb:XK->TS)(th:TH):TS:=λD σ H=>tb (afV K th D σ) D σ H
def UT(O:X.Gj)(hb:US X pj tb)(hh:PH X (Z::hs) th):PS X (.Try pj (Z::hs) [] [] pos) (afW X.K tb th):=by
 intro pins s σ H D I h;apply wpAny_Try_except (jD (hb pins s σ H D _ I h) (λf s1 q=>?_) λe s1 q=>?_)
 .cases f with
  |next=>exact Ff q
  |brk=>exact q
  |cont=>exact q
  |ret v=>exact q
 .let(a,C,od,H0,H1,rfl,z,W,hd,C',N,U,c,hk):=q;cases U;apply Gh O.1 O.2 O.2 z.ok.frames z W.at_ λs2 H2 J Y=>?_;apply Di none J Y λs3 j M F=>?_;exact hh pins s3 σ j H0 a C N od D M c F (hk a j hd F)
def UU(hN:X.N.Nodup)(hi:X.N[i]? =Α x)(hx:Loc X.env.scope x)(F:ý (gw X.prog X.w) k f fd ps sp)(hr:eS k X.A)(hg:Gl X g)(hm:X.mg g=Α ď)(hk:PySem.W.keepIn X.K ď=true)(hb:ŉ [])(ha:PA X.yu (e::es) t)(hs:swapsWith (.Call (.Name g p) (e::es) [] pos) (some (.Name x px)) xb.line X.env=pure false:=by rfl) (hf:X.fn x=true\/X.env.scope.names.Q x=Α .local:=by first|exact .inl Á|exact .inr Á|assumption)(j8:(g==("__debug__":Str))=false:=by decide) (he:starEach (e::es) X.env=(false,eval e X.env)::starEach es X.env:=by rfl) (Y:(backTo pos û).any (·.1)=false:=by rfl):
  US X [.Assign [.Name x px] (.Call (.Name g p) (e::es) [] pos) xb] (λE=>Ag (g8 sp [] E t) (qC i)):=by
 intro pins s σ H D E I h;let hZ:wpAny È X.A (eval (.Call (.Name g p) (e::es) [] pos) X.env) (ô λv H1=>D.nx ń H1) (λe s'=>∃a C od H0 H',e=.ref a/\Ã H' s'/\sj .none H0 a C od H'/\(∀d,od=Α d->d≠a)/\E Ĉ od H0) s:=by
  apply zT (yr I hg hm ?_ j8);refine PySem.W.callWith_K (h₀:=X.base) I.ok.mod.wJ hk (jD (ha pos pins s σ H _ (I.i5 _) h) (λU J ⟨vs,H1,I1,r,q⟩=>Äj) λ_ _ z=>False.elim z) he Y;let I1:=I1.nB;let q:sp (vs++[]) H1 (λv H1=>D.nx ń H1) E:=q;rw[jF] at q;let hl:U.L=ps.L:=by rw[<-r.L];exact F.len _ _ _ _ q
  let M:=hb J U I1.gD Å;rw[jF] at M;apply Fc (yf (F.run X.A X.stack J H1 ⟨U,[]⟩ U vs _ E hr I1.Cw M r q) λr s' j=>?_);cases r with
  |error e=>
   let(a,C,od,H0,H',Z,e2,e3,e4,e5,e6,e7,e8):=j;exact(a,C,od,H0,H',Z,I1.wM (ch:=[]) e2 e4 e5 e3 ļ,e6,e7,e8)
  |ok fl=>
   cases fl with
   |ret u=>exact I1.after j
   |next=>exact False.elim j
   |brk=>exact False.elim j
   |cont=>exact False.elim j
 apply aa1 (wpAny_Assign_Name (jD hZ (λv J ⟨y,H1,I1,r1,q1⟩=>?_) λ_ _ z=>z) hs);exact FB I1 hN hi hx r1 (λs2 O=>Ff ⟨_,H1,O,q1⟩) hf
def Dk(K:FR)(a:Addr):It:=
 ⟨λi H=>∃(xs:ay)(x:V),š a xs/\xs[i]? =Α x,λi H v H'=>∃T x,v=.ref T/\H T=Β/\H'=upd H T (.tup [.int (i:Nat),x])/\∀xs,š a xs->xs[i]? =Α x,λi H=>∃xs:ay,š a xs/\xs.L=i⟩
def Lc(x:IsTup h a aj):h.IsTuple a aj:=x
def afX{P:Pg}{w:Wd}{K:FR}{oo:List Expr}{kk:Nat}{nN:Pos}(a e it:Addr):
  Turn P w K Ĵ (Dk K a) [e,it] e (λi h=>(∃J,IsEnum h e it ((i:Nat):Int) J)/\h.IsTupleIter it a i/\e≠it/\a≠it/\a≠e) where
 mem:=by simp
 obj:=λi h=>Gd
 keep:=λi h h' st k=>let ⟨⟨J,j⟩,hi,aL⟩:=st;⟨⟨J,k e Ä _ j⟩,hi.at λo q=>k it Ä o q,aL⟩
 item:=by
  show Õ;subst hP hw hK;let ob:=Gd st;let((J,j),iQ,aL,M,W):=st;let(xs,x,U,Z):=hg;let(O,rv,p,hz):=I.tuple U;let(u,hu,ru):=rv.get Z;let K2:=dh j;let Y:X.A.in1.handled=Β:=I.ok.hd hc;apply wpAny_pyNext_enum_itemD (Sl Y it a M O.toArray) j ⟨iQ,Lc p⟩ (by simpa using (bo.mp hu).1) aL (by simp;exact(aL,eE W)) λy h' tk hy ho ji hT hsz hk=>?_;let ey:y=u:=by
   let q:=hu.symm.R (À hy);exact(aQ q).symm
  subst ey;apply(_,Á,atQ (s:={s with heap:=h',toks:=tk+1}) ho λqI jN sb=>?_);let vE:qI.I s.Z=Α {cls:=.type "tuple",data:=.seq #[.int i tk,y]}:=(sb.2 _ (u5 K2)).R hT;let ⟨I1,n1⟩:=Gc (x:=.int (i:Nat)) (t':=tk+1) ob hf (λb ob F q=>(sb.2 b (λz=>F (by simp[z]))).R (hk b ob (λz=>F (by simp[z])) (λz=>F (by simp[z])) q)) I vE ⟨_,rfl⟩ ru;exact(.ref s.Z,_,I1,Á,⟨_,x,Á,I.aD.fresh (bA _),Á,λys hy=>by rw[I.Sx hy U];exact Z⟩,⟨⟨y,by rw[show((i+1:Nat):Int)=(i:Int)+1 by rfl];exact jN⟩,ji.1.at λo q=>(sb.2 it Æc).R q,aL,M,W⟩,n1)
 done:=by
  show Õ;subst hP hw hK;let((J,j),iQ,aL,M,W):=st;let(xs,U,Z):=hg;let(O,rv,p,hz):=I.tuple U;show ì;let hl:=rv.L;let Y:X.A.in1.handled=Β:=I.ok.hd hc;let en:i=O.toArray.u:=by
   rw[u9];symm
  subst en;exact wpAny_pyNext_enum_endD (Sl Y it a M O.toArray) j ⟨iQ,Lc p⟩ λh' eb=>⟨Á,I.turned (t':=s.toks) (λb o F q=>eb b o F q) f0 f1 f3 f4 f5⟩
 self:=λA i s Q E st h=>let ⟨⟨_,j⟩,_⟩:=st;RM j h
def afY(K:FR)(ta:TA):TI:=λσ H R=>ta σ H λvs H1=>∃a xs,vs=[.ref a]/\bw K H1 a xs/\R (Dk K a) H1
def UV{X:Cx}{e:Expr}{ta:TA}{p pos nN:Pos}{oo:List Expr}{kk:Nat}(hg:Gl X "enumerate")(hm:X.mg "enumerate"=Β)(O:PA X [e] ta)(hs:starEach [e] X.env=[(false,eval e X.env)]:=by rfl):
  PI X Ĵ (.Call (.Name "enumerate" p) [e] [] pos) (afY X.K ta):=by
 intro pins s σ H R I h;apply Call_ (Àq boot_enumerate (Fg (aP (O pos pins s σ H _ I h) λus j ⟨vs,H1,I1,r1,Z⟩=>?_) hs Á));let(a,xs,ex,W,q):=Z;subst ex;cases r1 with
 |cons r rr=>
  cases rr;cases r;let(aj,rv,F,hz):=I1.tuple W;let J:=F.lt;apply acp (Lc F) λh' z Y hsz hk=>RM z ?_;let M:Ã H1 {j with heap:=h'}:=I1.kept (t':=j.toks) hk;apply(j.Z+1,[j.Z+1,j.Z],_,_,H1,Á,M,afX a (j.Z+1) j.Z,⟨⟨.none,z⟩,Y,Nat.succ_ne_self _,fU J,fU (Fl J)⟩,λb U=>?_,q);let e':b=j.Z+1\/b=j.Z:=À U
  let lX:j.Z<=b:=by
   grind
  exact I1.wO lX Çv
def Le{K:FR}{a:Addr}{xs:ay}{g:TG}{tb:TS}{D:Ends}{σ:St}{H:Hp}(Pv:Nat->St->Hp->Prop)(h0:Pv 0 σ H)(Z:∀i σ H,i<=xs.L->Pv i σ H->ä a xs)(hs:∀i x T σ H,xs[i]? =Α x->Pv i σ H->H T=Β->g ų σ (upd H T (.tup [.int (i:Nat),x])) λσ2 j=>tb {D with nx:=Pv (i+1),ct:=Pv (i+1),bk:=D.nx} σ2 j) (hd:∀σ H,Pv xs.L σ H->D.nx σ H):
  ∃W:Nat->Nat->St->Hp->Prop,(∃m,W 0 m σ H)/\∀i m σ H,W i m σ H->
   ((xj K a).stop i H/\D.nx σ H)\/((xj K a).go i H/\∃N:St->Hp->Prop,(∀σ' H',N σ' H'->∃M,M<m/\W (i+1) M σ' H')/\∀x H',(xj K a).ou i H x H'->g x σ H' λσ2 j=>tb {D with nx:=N,ct:=N,bk:=D.nx} σ2 j):=by
 refine ï;rintro i m σ H ⟨rfl,hi,p⟩;let q:=Z i σ H hi p;by_cases F:i<xs.L
 .apply .inr ⟨⟨xs,xs[i],q,by simp[F]⟩,Pv (i+1),λσ' H' p'=>⟨xs.L-(i+1),by grind,rfl,F,p'⟩,λx H' y=>?_⟩;let(T,z,J,O,U,Y):=y;subst J U;exact hs i z T σ _ (Y xs q) p O
 .let e:i=xs.L:=by lia
  subst e;exact .inl ⟨⟨xs,q,bA _⟩,hd σ H p⟩
def UW{K:FR}{a:Addr}{xs:ay}{g:TG}{tb:TS}{D:Ends}{σ:St}{H:Hp}(Pv:Nat->St->Hp->Prop)(h0:Pv 0 σ H)(Z:∀i σ H,i<=xs.L->Pv i σ H->š a xs)(hs:∀i x T σ H,xs[i]? =Α x->Pv i σ H->H T=Β->g ų σ (upd H T (.tup [.int (i:Nat),x])) λσ2 j=>tb {D with nx:=Pv (i+1),ct:=Pv (i+1),bk:=D.nx} σ2 j) (hd:∀σ H,Pv xs.L σ H->D.nx σ H):
  ∃W:Nat->Nat->St->Hp->Prop,(∃m,W 0 m σ H)/\∀i m σ H,W i m σ H->
   ((Dk K a).stop i H/\D.nx σ H)\/((Dk K a).go i H/\∃N:St->Hp->Prop,(∀σ' H',N σ' H'->∃M,M<m/\W (i+1) M σ' H')/\∀x H',(Dk K a).ou i H x H'->g x σ H' λσ2 j=>tb {D with nx:=N,ct:=N,bk:=D.nx} σ2 j):=by
 refine ï;rintro i m σ H ⟨rfl,hi,p⟩;let q:=Z i σ H hi p;by_cases F:i<xs.L
 .apply .inr ⟨⟨xs,xs[i],q,by simp[F]⟩,Pv (i+1),λσ' H' p'=>⟨xs.L-(i+1),by omega,rfl,F,p'⟩,λx H' y=>?_⟩;let(T,z,J,O,U,Y):=y;subst J U;exact hs i z T σ _ (Y xs q) p O
 .let e:i=xs.L:=by omega
  subst e;exact .inl ⟨⟨xs,q,Á⟩,hd σ H p⟩
def afZ{x:Str}{g:TG}{tt:TT}{te:TE}{vs:LN}{σ:St}{H1:Hp}{D:Addr}{Qd:Hp->Prop}(j:Nat->Hp->Prop)(O:j 0 Đ)(hs:∀i c H,x.cps[i]? =Α c->j i H->g (.str ⟨#[c]⟩) ľ H λσ2 F=>wipe σ2 vs=wipe σ vs/\tt σ2 F λb z=>
   if b=true then te σ2 z (lh D (j (i+1))) else j (i+1) z) (hd:∀H,j x.cps.u H->Qd H):
  ∃W:Nat->Nat->Hp->Prop,(∃m,W 0 m Đ)/\∀i m H,W i m H->
   ((Da x).stop i H/\Qd H)\/((Da x).go i H/\∃Nx:Hp->Prop,(∀H',Nx H'->∃M,M<m/\W (i+1) M H')/\∀y H',(Da x).ou i H y H'->g y ľ H' λσ2 F=>wipe σ2 vs=wipe σ vs/\tt σ2 F λb z=>
    if b=true then te σ2 z Æn else Nx z):=by
 apply(λi m H=>m=x.cps.u-i/\i<=x.cps.u/\j i H,⟨x.cps.u,by simp,di _,O⟩,?_);rintro i m H ⟨rfl,hi,p⟩;by_cases J:i<x.cps.u
 .apply .inr ⟨J,j (i+1),λH' U=>⟨x.cps.u-(i+1),by grind,rfl,J,U⟩,λy H' q=>?_⟩;let(e,c,Y,Z):=q;symm
 .let e:i=x.cps.u:=by lia
  subst e;exact .inl ⟨bA _,hd H p⟩
section
variable{X:Cx}
def UX{E:XK}{i:Nat}{y:Str}{py:Pos}{lW tg iter:Expr}{j0:List Expr}{scope:Scope}{own:List (Str×Nat)}{pos xb:Pos}{wi:TI}{g:TG}{tt:TT}{te:TE}(hc:X.calm=true)(ow:X.Gj)(hN:X.N.Nodup)(hy:X.N[i]? =Α y)(tP:X.env.scope.names.Q y=Α .local)(CY:swapsWith â (some (.Name y py)) xb.line X.env=pure true) (hi:PI (X.yL E) tg iter wi) (ok:ĵ own)(hg:∀(s:Sh)(H:Hp)(C:Addr)(cl:gr)(fp:LA),PG Ó tg g) (ht:∀(s:Sh)(H:Hp)(C:Addr)(cl:gr)(fp:LA),yF Ó j0 tt)(he:∀(s:Sh)(H:Hp)(C:Addr)(cl:gr)(fp:LA),PE ((X.gS s H scope Áh fp).yL E) lW te) (hs:∀x,foldedSetIterable iter X.env x=pure x:=by intro _;rfl):
  PS (X.yL E) (.Assign [.Name y py] â xb) (Ag (CW wi g tt te (own.M (·.2))) (qC i)):=by
 apply Uc (Ex:=Ay X E) (Eb:=λB=>Ay B E) hc hN hy tP CY hi ok hg ht he hs λ{use Qf}pins σ j H3 cl fp D e ma I3 J hz=>?_;generalize l9:compEnvC scope cl j.Z X.env=ce at hz;let cL:ce.locals=j.Z:=by subst l9;rfl
 let(xa,xC,od,H0,Hx,σx,rfl,Ix,fx,gU,hE):=hz;apply Gh (X:=X.gS j H3 scope ce fp) (en:=ce) ow.1 ow.2 (by rw[<-l9];exact ow.2) I3.ok.frames Ix fx λM F W UY=>?_;let(m,U,_):=id W.loc;let U:=U;rw[cL] at U;let nC:F j.Z=Β:=by
  let z:=W.free;rw[cL] at z;exact z
 let hZ:∃m,M.H.Ns j.Z m/\∀h',Heap.SameBut j.Z M.H h'->∀O:Env,O.locals=j.Z->wpAny È X.A (passOn "comprehension.variables-let-go" (.ref xa) O:Sem Value) Äo (Ay X E) {M with heap:=h'}:=by
  apply(m,U,λh' sb O _=>?_);let Z:Ã F M:=I3.wM (ch:=fp) W.os W.base W.aD W.bare λb q=>⟨(J b q).1.2.2.2.1,(J b q).1.2.1,(J b q).1.2.2.2.2.1,(J b q).1.2.2.2.2.2⟩;let(g0,g1,g2,g3,g4,g5):=I3.wO (H':=F) (bA _) nC;let UZ:Ã F {M with heap:=h',toks:=M.toks}:=Z.turned (t':=M.toks) (λb o q e=>(sb.2 b q).R e) g0 g1 g3 g4 g5;let(T',Dj,_):=id UY;let(o',ge',q1',q2',AA,q3',q4'):=qK UZ.aD Dj;ext PySem.passOn;apply aF (wC ge' q3' q4' ?_);rw[ag (show ¬(Value.ref T'==Value.none)=true from eN)];apply aF (Di O.frame UZ UY λmf Y I14 f14=>wpAny_throw ?_);exact(xa,xC,od,H0,Y,σ,Á,I14.K9,f14.at_,gU,hE)
 cases use <;> exact hZ
end
end L2
namespace L2
open PySem PySem.Spec PyProof.Rows
theorem xn:∀xs ys:LI,PyData.eqvAll ϧ (ys.M PyData.int)=decide (xs=ys)
 |[],[]=>by simp[PyData.eqvAll]
 |[],y::ys=>by simp[PyData.eqvAll]
 |x::xs,[]=>by simp[PyData.eqvAll]
 |x::xs,y::ys=>by
  simp only[a7,PyData.eqvAll,PyData.eqv,xn xs ys];by_cases h:x=y
  .subst h;simp
  .simp[h]
theorem Lf:∀xs:LI,PyData.canLayAll0 ϧ=true:=by
 intro xs;induction xs with
 |nil=>exact Á
 |cons x xs j=>
  simp only[a7,PyData.canLayAll0,PyData.canLay0,j,JK]
theorem Lg:∀xs:LI,PyData.depthAll ϧ<=1:=by
 intro xs;induction xs with
 |nil=>
  simp[PyData.depthAll]
 |cons x xs j=>
  let:=j;simp only[a7,PyData.depthAll,PyData.depth];assumption
def shaped_ints(xs:LI):SeqAt.shaped (.list ϧ)=true:=by
 ext SeqAt.shaped;rw[jG,lY];apply(Lf xs,?_);let:=Lg xs;simp only[PyData.depth];lia
theorem qN{K:FR}{H:Hp}:∀xs:LI,jm K H Éb ϧ:=by
 intro xs;induction xs with
 |nil=>exact .nil
 |cons x xs j=>
  exact .cons (.int x) j
inductive af7(K:FR)(x:V)(y:V)(H:Hp)(Q:VK):Prop
 |mk (a b:Addr) (xs ys:LI) (_:x=.ref a) (_:y=.ref b) (_:ä a Éb) (_:ä b (ys.M V.int)) (_:Q (.bl (decide (xs=ys))) H)
inductive af8(K:FR)(x:V)(y:V)(H:Hp)(Q:VK):Prop
 |mk (a b:Addr) (xs ys:LI) (_:x=.ref a) (_:y=.ref b) (_:ä a Éb) (_:ä b (ys.M V.int)) (_:Q (.bl (!decide (xs=ys))) H)
def af9(J:X.A.units+64<cLine):fh X Áz (af7 X.K):=by
 intro pins s σ H x y v u Q I M O ⟨a,b,xs,ys,j,z,F,h2,q⟩;subst j z;apply TX J pins s σ H _ _ v u Q I M O ⟨_,_,.lst F (qN xs),.lst h2 (qN ys),shaped_ints _,shaped_ints _,?_⟩;show Q (.bl (PyData.eqvAll _ _)) H;rw[xn];exact q
def Lh(J:X.A.units+64<cLine):fh X Âi (af8 X.K):=by
 intro pins s σ H x y v u Q I M O ⟨a,b,xs,ys,j,z,F,h2,q⟩;subst j z;apply F2 J pins s σ H _ _ v u Q I M O ⟨_,_,.lst F (qN xs),.lst h2 (qN ys),shaped_ints _,shaped_ints _,?_⟩;show Q (.bl (!PyData.eqvAll _ _)) H;rw[xn];exact q
inductive U0(K:FR)(x:V)(y:V)(H:Hp)(Q:VK):Prop
 |mk (a b xs:_) (_:x=.ref a) (_:y=.ref b) (_:ä a xs) (_:ä b []) (_:Q (.bl xs.isEmpty) H)
inductive aga(K:FR)(x:V)(y:V)(H:Hp)(Q:VK):Prop
 |mk (a b xs:_) (_:x=.ref a) (_:y=.ref b) (_:ä a xs) (_:ä b []) (_:Q (.bl (!xs.isEmpty)) H)
def U1(r:bp xs aj)(j:bp [] its')(h:xs≠[]):(aj.toArray.u !=its'.toArray.u)=true:=by
 cases j;let:=r.L;grind
def vI(hu:X.A.units+64<cLine):fh X Áz (U0 X.K):=by
 intro pins s σ H x y v u Q I F J ⟨a,b,xs,Y,Z,j,h2,q⟩;subst Y Z;by_cases z:xs=[]
 .subst z;apply TX hu pins s σ H _ _ v u Q I F J ⟨_,_,.lst j .nil,.lst h2 .nil,by rfl,by rfl,?_⟩;exact q
 .cases F;cases J;let(aj,r1,(o1,n1,g1,M,_,U),_):=I.list j;let(its',r2,(o2,n2,g2,O,_,W),_):=I.list h2;apply SeqAt.eq_list_lengthsAt ⟨o1,g1,M,n1,U⟩ ⟨o2,g2,O,n2,W⟩ (U1 r1 r2 z) Î ⟨.bl false,H,I,Á,?_⟩;grind
def Dm(hu:X.A.units+64<cLine):fh X Âi (aga X.K):=by
 intro pins s σ H x y v u Q I Y Z ⟨a,b,xs,e1,e2,U,h2,q⟩;subst e1 e2;by_cases W:xs=[]
 .subst W;apply F2 hu pins s σ H _ _ v u Q I Y Z ⟨_,_,.lst U .nil,.lst h2 .nil,by rfl,by rfl,?_⟩;exact q
 .cases Y;cases Z;let(aj,r1,(o1,n1,O,j,_,J),_):=I.list U;let(its',r2,(o2,n2,g2,z,_,M),_):=I.list h2;let(cls,dd,data,sl):=o1;let(S7,nI,data2,oA):=o2;simp only at j J z M;subst j J z M;refine RD (op:=.NotEq) ⟨_,O,Á⟩ ⟨_,g2,Á⟩ F.slot_list_ne F.entry_list_ne (F.args_list_ne_2 _ _) (SeqAt.list_ne_lengthsAt a b aj.toArray its'.toArray n1 n2 dd nI sl oA (U1 r1 r2 W))
   ⟨O,g2,(λx=>nomatch x),⟨.bl true,H,I,rfl,?_⟩⟩ (by omega)
  grind
end L2
namespace L2
open PySem PySem.Spec PyProof.Rows PySem.XL
theorem agb(x:Áj o):∃O,h.I a=Α O:=by
 cases o with
 |lst xs=>let(_,_,_,_,e):=x;exact(_,e)
 |tup xs=>let(_,_,_,O,e,_):=x;exact(O,e)
 |dK kvs=>let(_,_,_,_,o,_,_,e,_):=x;exact(o,e)
 |dT kvs=>let(_,_,_,_,o,_,_,e,_):=x;exact(o,e)
 |set S n=>let(o,_,_,_,e,_):=x;exact(o,e)
 |ins C dx fs=>let(_,_,_,e,_):=x;exact(_,e)
 |own y=>let(O,e):=x;exact(O,e)
 |xd fs=>let(_,(O,_,_,e,_),_):=x;exact(O,e)
 |tG lo hi=>let(_,_,_,e):=x;exact(_,e)
 |cO O u=>let(e,_):=x;exact(O,e)
 |j5 ps=>exact(_,x)
 |met f y=>exact(_,x)
 |ext φ=>let(_,(O,e),_):=x;exact(O,e)
def agc(C:Addr):TE:=λ_ H Q=>∀x,H x=Β->Q ŧ (upd H x Ś)
def lr(c:XC X.K C N)(mI:PySem.W.nsIn X.K N "__init__"=Α none)(kp:PySem.W.keepIn X.K Ĉ=true)(Z:Gl X x)(hm:X.mg x=Α Ĉ)(j8:(x==("__debug__":Str))=false:=by decide):
  PE X (.Call Ϗ [] [] pos) (agc C):=by
 show Ú;apply zT (yr I Z hm ?_ j8);apply PySem.W.callWith_K0 I.gD kp ?_;let(nm,q,bs,sn,sub,ab,col,dd,k0,k1,k2,k3,k5,cls):=c.obj;let(O,U,_):=cls s.H I.gD;let yn:=PySem.W.nsMap_none_of_in I.gD (Lb c) mI;let j:=I;let(hh,g,d,tk,os):=s;apply wpAny_call_exc_sub PySem.F.excBase_Exception O U yn (λh' e M=>?_) Ä;let(t,Y,_):=M.there;let ne:H e=Β:=by
  cases z:H e with
  |none=>rfl
  |some u=>
   let(o,eo):=agb (j.aD e u z);let nn:=M.new;symm
 apply(.ref e,_,j.Gk (h2:=h') (t2:=tk) [e] (λb J=>?_) ē Àd (λb o J g=>M.keeps b o g) (λb hb o g=>⟨_,M.keeps b o g⟩),Á,h e ne)
 .let:b≠e:=by simpa using J
  rw[az this]
 .let:b=e:=by simpa using hb
  subst this;exact .inl ⟨ne,M.new⟩
 .let:b=e:=by simpa using hb
  subst this;rw[aq] at hu;cases hu;exact tX Y ⟨Á,Á,_,Á,Á⟩
def Dp.inj{pins:cb}{σ:St}{H:Hp}{s:Sh}(I:Ã H s){d d':PyData}{v:V}(h:Dp X.K H v d):Dp X.K H v d'->d=d':=by
 let no:∀{a xs ys},Ák a xs->bw X.K H a ys->False:=λq j=>by
  let(_,_,(o1,n1,Z,O,_,_),_):=I.list q;let(_,_,(o2,g2,J,_,_),_):=I.tuple j;rw[Z] at g2;cases g2;rw[O] at J;exact absurd J É
 refine Dp.rec (motive_1:=λv d _=>∀d',Dp X.K H v d'->d=d') (motive_2:=λvs Y _=>∀U,jm X.K H vs U->Y=U)
  (λd' h=>by cases h;rfl) (λb d' h=>by cases h;rfl) (λi d' h=>by cases h;rfl) (λx d' h=>by cases h;rfl) (λq M F d' h=>?_) (λq M F d' h=>?_) (λd' h=>by cases h;rfl) (λ_ _ i1 i2 d' h=>?_) h d'
 .cases h with
  |lst j z=>
   let e:=I.Cm q j;subst e;rw[F _ z]
  |tup j z=>exact(no q j).elim
 .cases h with
  |tup j z=>
   let e:=I.Sx q j;subst e;rw[F _ z]
  |lst j z=>exact(no j q).elim
 .cases h with
  |cons W r2=>rw[i1 _ W,i2 _ r2]
def dataOf:List (Value×PyData)->Value->PyData
 |[],_=>.none
 |(u,d)::r,x=>if u=x then d else dataOf r x
inductive U3(K:FR)(x:V)(y:V)(H:Hp)(Q:VK):Prop
 |mk (p:Addr) (xs:ay) (ds:List PyData) (dx:PyData) (_:y=.ref p) (_:ä p xs) (_:jm K H xs ds) (_:Ál x dx) (_:(∀d∈ds,SeqAt.shaped d=true)) (_:SeqAt.shaped dx=true) (_:Q (.bl (ds.any λd=>PyData.eqv d dx)) H)
def U4{pins:cb}{σ:St}{H:Hp}{s:Sh}(I:Ã H s){xs:ay}:∀{j:List PyData}{U:LV},jm X.K H xs j->bp xs U->
  ∀(i:Nat)(u:Value)(d:PyData),U[i]? =Α u->j[i]? =Α d->dataOf (U.zip j) u=d/\∃v,Dp X.K H v d/\RelV v u:=by
 induction xs with
 |nil=>
  intro j U hd q i u d h _;cases q;simp at h
 |cons x xs Y=>
  intro j U hd q i u d F h2;cases hd with
  | @cons _ _ e j d1 r1=>
  cases q with
  | @cons _ w _ U v1 r2=>
  show(if w=u then e else dataOf (U.zip j) u)=d/\_;cases i with
  |zero=>
   let O:=aQ F;let W:=aQ h2;subst O W;exact(ah Á,x,d1,v1)
  |succ i=>
   let(Z,v,J,M):=Y r1 r2 i u d F h2;apply(?_,v,J,M);by_cases z:w=u
   .subst z;rw[ah rfl];let:x=v:=v1.inj M;subst this;exact Dp.inj I d1 J
   .rw[ag z];exact Z
theorem U5{K:FR}{H:Hp}{xs:ay}:∀{j:List PyData},jm K H xs j->xs.L=j.L:=by
 induction xs with
 |nil=>intro j h;cases h;rfl
 |cons x xs q=>
  intro j h;cases h with
  |cons _ r=>rw[dg,dg,q r]
theorem agd{α β:Type}{f:α->Bool}{g:β->Bool}{xs:List α}:∀{ys:List β},xs.L=ys.L->(∀(i:Nat)x y,xs[i]? =Α x->ys[i]? =Α y->f x=g y)->xs.any f=ys.any g:=by
 induction xs with
 |nil=>
  intro ys h _;cases ys with
  |nil=>rfl
  |cons _ _=>simp at h
 |cons x xs q=>
  intro ys h k;cases ys with
  |nil=>simp at h
  |cons y ys=>rw[va,va,k 0 x y rfl rfl,q (À h) λi a b j h2=>k (i+1) a b j h2]
def Li(hu:X.A.units+128<cLine):fh X (compareOp .In) (U3 X.K):=by
 intro pins s σ H x y v u Q I rx ry ⟨p,xs,ds,dx,F,hs,hd,O,sd,sx,q⟩;subst F;cases ry;let(aj,r,pl,hz):=I.list hs;let(as,z):=Dp.reads I dx x v O rx;let J:aj.L=ds.L:=by rw[<-r.L,U5 hd]
 apply SeqAt.in_listAt ţ pl.isList (λw M=>?_) ⟨.bl _,H,I,Á,?_⟩
 .let(i,hi,e):=nr (show w∈aj by simpa using M);let j:aj[i]? =Α w:=by rw[cI hi,e]
  let h2:ds[i]? =Α ds[i]:=cI (by omega);let(U,v',W,Y):=U4 I hd r i w _ j h2;rw[U];let(bs,Z):=Dp.reads I _ v' w W Y;let sh:=sd _ (bj h2);apply SeqAt.eqAt_reads _ dx X.A.in1 s w v bs as Z z (RN sh) (RN sx) ?_;let:=SeqAt.depth_of_shaped sh;show X.A.units+1+_<_;lia
 .rw[show aj.toArray.any ţ=aj.any ţ by simp];rw[agd (g:=λd=>PyData.eqv d dx) J λi a b j h2=>by rw[(U4 I hd r i a b j h2).1]];exact q
end L2
namespace L2
open PySem PySem.Spec PyProof.Rows
def aY{K:FR}{H:Hp}{a C dx:Addr}{fs:List (Str×V)}{f:Str}{v:V}{Q:V->Prop}(h:H a=Α Ϡ)(c:l7 K C)(n:ϱ f)(l:fs.Q f=Α v)(q:Q v):∃F j z Al J,V.ref a=.ref F/\H F=Α (.ins j z Al)/\l7 K j/\g7 K j f/\Al.Q f=Α J/\Q J:=⟨a,C,dx,fs,v,rfl,h,c,n,l,q⟩
def cg{N P:LS}{j:Scope}(k:j.kind=.function:=by rfl)(h:j.isCoroutine=false/\j.isGenerator=false/\N.Nodup/\N.take P.L=P/\(∀x∈P,j.names.Q x=Α .local\/j.names.Q x=Α .cell)/\∀y∈j.names,y.2≠ .free:=by decide+kernel):bC N P j:=⟨k,h.1,h.2.1,h.2.2.1,h.2.2.2.1,h.2.2.2.2.1,h.2.2.2.2.2⟩
abbrev jo:=List (Addr×HO)
def aU(H:Hp)(ns:jo):Prop:=∀x∈ns,H x.1=Α x.2
def aU.same(h:aU H ns)(s:ai H H'):aU H' ns:=λx j=>s _ _ (h x j)
def aU.upd(h:aU H ns)(n:∀x∈ns,x.1≠D):aU Èk ns:=λx j=>by rw[az (n x j)];exact h x j
def aU.nil:aU H []:=λx j=>absurd j Ä
def Lj(Z:Nat->V->jo->Prop)(H:Hp)(ys:ay):Prop:=∀i y,ys[i]? =Α y->∃ns,Z i y ns/\aU H ns
def AC(D:Addr)(Z:Nat->V->jo->Prop)(H:Hp)(ys:ay):Prop:=∀i y,ys[i]? =Α y->∃ns,Z i y ns/\aU H ns/\∀x∈ns,x.1≠D
def AC.fill(h:AC D Z H ys):Lj Z H ys:=λi y e=>let ⟨ns,a,b,_⟩:=h i y e;⟨ns,a,b⟩
def AC.snoc{D:Addr}{Z:Nat->V->jo->Prop}{H j:Hp}{ys:ay}{y:V}{o:HO}{ns:jo}(h:AC D Z H ys)(s:ai H j)(z:Z ys.L y ns)(l:aU j ns)(n:∀x∈ns,x.1≠D):AC D Z (upd j D o) (ys++[y]):=λi v e=>by
 by_cases hi:i<ys.L
 .rw[Fj hi] at e;let(F,a,b,c):=h i v e;exact(F,a,(b.E s).upd c,c)
 .rw[RC Å] at e;let q:i-ys.L=0:=by
   cases z:i-ys.L with
   |zero=>rfl
   |succ k=>rw[z] at e;simp at e
  rw[q] at e;let:y=v:=À e
  subst this;let:i=ys.L:=by grind
  subst this;exact(ns,z,l.upd n,n)
def sr(s:ai H H1)(h:H p=Β):ai H (L2.upd H1 p o):=λb u e=>by rw[az (eQ e h)];exact s b u e
section
variable{K:FR}{g:TG}{tt:TT}{te:TE}{vs:LN}{σ:St}{H1:Hp}{D:Addr}{Qd:Hp->Prop}
def cy(H1:Hp)(D:Addr)(Z:Nat->V->jo->Prop)(i:Nat)(H:Hp):Prop:=∃ys,ai H1 H/\H D=Α Âw/\ys.L=i/\AC D Z H ys
def cy.zero(j:H1 D=Β):cy H1 D Z 0 Đ:=⟨[],sr (λ_ _ e=>e) j,aq,rfl,λi y e=>by simp at e⟩
def cy.step(j:H1 D=Β)(hi:i<1000000)(f:cy H1 D Z i H)(s:ai H H4)(z:Z i y ns)(l:aU H4 ns)(n:∀x∈ns,x.1≠D):
  lh D (cy H1 D Z (i+1)) y H4:=by
 let(ys,F,hd,q,fd):=f;subst q;refine⟨ys,s _ _ hd,j3 hi (by rw[yg];decide),ys++[y],sr (F.R s) j,aq,by simp,fd.snoc s z l n⟩
def cy.same(f:cy H1 D Z i H):ai H1 H:=let ⟨_,s,_⟩:=f;s
def cy.has(f:cy H1 D Z i H):H D≠none:=let ⟨_,_,e,_⟩:=f;by rw[e];simp
def cy.end(f:cy H1 D Z i H):∃ys,ai H1 H/\H D=Α Âw/\ys.L=i/\Lj Z H ys:=let ⟨ys,a,b,c,d⟩:=f;⟨ys,a,b,c,d.fill⟩
def mh{a:Addr}{xs:ay}(j:Nat->Hp->Prop)(h0:j 0 Đ)(hl:∀i H,i<=xs.L->j i H->ä a xs)(hs:∀i x T H,xs[i]? =Α x->j i H->H T=Β->g ų ľ (upd H T (.tup [.int (i:Nat),x])) λσ2 J=>wipe σ2 vs=wipe σ vs/\tt σ2 J λb F=>
   if b=true then te σ2 F (lh D (j (i+1))) else j (i+1) F) (hd:∀H,j xs.L H->Qd H):
  ∃W:Nat->Nat->Hp->Prop,(∃m,W 0 m Đ)/\∀i m H,W i m H->
   ((xj K a).stop i H/\Qd H)\/((xj K a).go i H/\∃Nx:Hp->Prop,(∀H',Nx H'->∃O,O<m/\W (i+1) O H')/\∀x H',(xj K a).ou i H x H'->g x ľ H' λσ2 J=>wipe σ2 vs=wipe σ vs/\tt σ2 J λb F=>
    if b=true then te σ2 F Æn else Nx F):=by
 apply(λi m H=>m=xs.L-i/\i<=xs.L/\j i H,⟨xs.L,by simp,di _,h0⟩,?_);rintro i m H ⟨rfl,hi,p⟩;let q:=hl i H hi p;by_cases M:i<xs.L
 .apply .inr ⟨⟨xs,xs[i],q,by simp[M]⟩,j (i+1),λH' p'=>⟨xs.L-(i+1),by grind,rfl,M,p'⟩,λx H' y=>?_⟩;let(T,z,U,Y,Z,e4):=y;subst U Z;exact hs i z T _ (e4 xs q) p Y
 .let e:i=xs.L:=by lia
  subst e;exact .inl ⟨⟨xs,q,bA _⟩,hd H p⟩
end
def and_val{z tB:TT}{σ:St}{H:Hp}{Q:Bool->Hp->Prop}(j q:Bool)(F:∀K:Bool->Hp->Prop,K j H->z σ H K)(J:j=true->∀K:Bool->Hp->Prop,K q H->tB σ H K)(h:Q (j&&q) H):FF z tB σ H Q:=
 F _ (by
  cases j with
  |false=>exact h
  |true=>exact J Á _ h)
def or_val{z tB:TT}{σ:St}{H:Hp}{Q:Bool->Hp->Prop}(j q:Bool)(F:∀K:Bool->Hp->Prop,K j H->z σ H K)(J:j=false->∀K:Bool->Hp->Prop,K q H->tB σ H K)(h:Q (j||q) H):Kb z tB σ H Q:=
 F _ (by
  cases j with
  |true=>exact h
  |false=>exact J Á _ h)
def Lk{z tB:TE}{σ:St}{H:Hp}{Q:VK}(j q:Bool)(F:∀K:VK,K (.bl j) H->z σ H K)(J:j=false->∀K:VK,K (.bl q) H->tB σ H K)(h:Q (.bl (j||q)) H):FG z tB σ H Q:=
 F _ ⟨j,rfl,by
  cases j with
  |true=>exact h
  |false=>exact J Á _ h⟩
def Gr(c:Bool)(v:V)(q:∀K:Bool->Hp->Prop,K c H->tA σ H K)(j:c=true->∀K:VK,K v H->ta σ H K)(h2:c=false->∀K:VK,K v H->tb σ H K)(h:Q v H):yt tA ta tb σ H Q:=
 q _ (by
  cases c with
  |true=>exact j Á _ h
  |false=>exact h2 Á _ h)
def U6{D}(c:Bool)(v:V)(q:∀K:Bool->Hp->Prop,K c H->tA σ H K)(j:c=true->∀K:VK,K v H->ta σ H K)(h2:c=false->∀K:VK,K v H->tb σ H K)(h:D.nx ń H):Ag (yt tA ta tb) (qC i) D σ H:=
 Gr c v q j h2 h
def U7{i:Nat}{v:V}{σ:St}{H:Hp}{t u:TS}{D}(h:t {D with nx:=u D} ń H):qC i v σ H (Ke t u D):=h
section
variable{K:FR}{g:TG}{tt:TT}{te:TE}{vs:LN}{σ:St}{H1:Hp}{D:Addr}{Qd:Hp->Prop}
def agf(j:Nat->Hp->Prop)(O:j 0 Đ)(U:∀i H,i<=kvs.L->j i H->H d=Α ϯ)(hs:∀i k v T H,kvs[i]? =Α (k,v)->j i H->H T=Β->g ų ľ (upd H T Èi) λσ2 F=>wipe σ2 vs=wipe σ vs/\tt σ2 F λb z=>
   if b=true then te σ2 z (lh D (j (i+1))) else j (i+1) z) (hd:∀H,j kvs.L H->Qd H):
  ∃W:Nat->Nat->Hp->Prop,(∃m,W 0 m Đ)/\∀i m H,W i m H->
   ((xi d o kvs).stop i H/\Qd H)\/((xi d o kvs).go i H/\∃Nx:Hp->Prop,(∀H',Nx H'->∃M,M<m/\W (i+1) M H')/\∀x H',(xi d o kvs).ou i H x H'->g x ľ H' λσ2 F=>wipe σ2 vs=wipe σ vs/\tt σ2 F λb z=>
    if b=true then te σ2 z Æn else Nx z):=by
 apply(λi m H=>m=kvs.L-i/\i<=kvs.L/\j i H,⟨kvs.L,by simp,di _,O⟩,?_);rintro i m H ⟨rfl,hi,p⟩;let q:=U i H hi p;by_cases J:i<kvs.L
 .apply .inr ⟨⟨q,J⟩,j (i+1),λH' Y=>⟨kvs.L-(i+1),by grind,rfl,J,Y⟩,λx H' y=>?_⟩;let(T,k,v,Z,e2,e3,e4):=y;symm
 .let e:i=kvs.L:=by lia
  subst e;exact .inl ⟨⟨q,bA _⟩,hd H p⟩
end
section
variable{K:FR}{g:TG}{tb:TS}{D:Ends}{σ:St}{H:Hp}
def agg{d:Addr}{o:Obj}{kvs:List (Key×V)}(j:Nat->St->Hp->Prop)(J:j 0 σ H)(O:∀i σ H,i<=kvs.L->j i σ H->H d=Α ϯ)(hs:∀i k v T σ H,kvs[i]? =Α (k,v)->j i σ H->H T=Β->g ų σ (upd H T Èi) λσ2 z=>tb {D with nx:=j (i+1),ct:=j (i+1),bk:=D.nx} σ2 z) (hd:∀σ H,j kvs.L σ H->D.nx σ H):
  ∃W:Nat->Nat->St->Hp->Prop,(∃m,W 0 m σ H)/\∀i m σ H,W i m σ H->
   ((xi d o kvs).stop i H/\D.nx σ H)\/((xi d o kvs).go i H/\∃N:St->Hp->Prop,(∀σ' H',N σ' H'->∃M,M<m/\W (i+1) M σ' H')/\∀x H',(xi d o kvs).ou i H x H'->g x σ H' λσ2 z=>tb {D with nx:=N,ct:=N,bk:=D.nx} σ2 z):=by
 apply(λi m σ H=>m=kvs.L-i/\i<=kvs.L/\j i σ H,⟨kvs.L,by simp,di _,J⟩,?_);rintro i m σ H ⟨rfl,hi,p⟩;let q:=O i σ H hi p;by_cases F:i<kvs.L
 .apply .inr ⟨⟨q,F⟩,j (i+1),λσ' H' U=>⟨kvs.L-(i+1),by omega,rfl,F,U⟩,λx H' y=>?_⟩;let(T,k,v,Y,Z,e3,e4):=y;symm
 .let e:i=kvs.L:=by omega
  subst e;exact .inl ⟨⟨q,bA _⟩,hd σ H p⟩
def agh{d:Addr}{o:Obj}{kvs:List (Key×V)}(j:Nat->St->Hp->Prop)(J:j 0 σ H)(O:∀i σ H,i<=kvs.L->j i σ H->H d=Α ϯ)(hs:∀i k v σ H,kvs[i]? =Α (k,v)->j i σ H->g v σ H λσ2 z=>tb {D with nx:=j (i+1),ct:=j (i+1),bk:=D.nx} σ2 z) (hd:∀σ H,j kvs.L σ H->D.nx σ H):
  ∃W:Nat->Nat->St->Hp->Prop,(∃m,W 0 m σ H)/\∀i m σ H,W i m σ H->
   ((Dc d o kvs).stop i H/\D.nx σ H)\/((Dc d o kvs).go i H/\∃N:St->Hp->Prop,(∀σ' H',N σ' H'->∃M,M<m/\W (i+1) M σ' H')/\∀x H',(Dc d o kvs).ou i H x H'->g x σ H' λσ2 z=>tb {D with nx:=N,ct:=N,bk:=D.nx} σ2 z):=by
 apply(λi m σ H=>m=kvs.L-i/\i<=kvs.L/\j i σ H,⟨kvs.L,by simp,di _,J⟩,?_);rintro i m σ H ⟨rfl,hi,p⟩;let q:=O i σ H hi p;by_cases F:i<kvs.L
 .apply .inr ⟨⟨q,F⟩,j (i+1),λσ' H' U=>⟨kvs.L-(i+1),by omega,rfl,F,U⟩,λx H' y=>?_⟩;let(Y,k,Z):=y;symm
 .let e:i=kvs.L:=by omega
  subst e;exact .inl ⟨⟨q,bA _⟩,hd σ H p⟩
def U8{a b:Addr}{xs ys:ay}(J:xs.L=ys.L)(Pv:Nat->St->Hp->Prop)(h0:Pv 0 σ H)(hl:∀i σ H,i<=xs.L->Pv i σ H->ä a xs/\ä b ys)(hs:∀i x y T σ H,xs[i]? =Α x->ys[i]? =Α y->Pv i σ H->H T=Β->g ų σ (upd H T Çx) λσ2 j=>tb {D with nx:=Pv (i+1),ct:=Pv (i+1),bk:=D.nx} σ2 j) (hd:∀σ H,Pv xs.L σ H->D.nx σ H):
  ∃W:Nat->Nat->St->Hp->Prop,(∃m,W 0 m σ H)/\∀i m σ H,W i m σ H->
   ((Dg K a b).stop i H/\D.nx σ H)\/((Dg K a b).go i H/\∃N:St->Hp->Prop,(∀σ' H',N σ' H'->∃M,M<m/\W (i+1) M σ' H')/\∀x H',(Dg K a b).ou i H x H'->g x σ H' λσ2 j=>tb {D with nx:=N,ct:=N,bk:=D.nx} σ2 j):=by
 refine ï;rintro i m σ H ⟨rfl,hi,p⟩;let(z,F):=hl i σ H hi p;by_cases q:i<xs.L
 .apply .inr ⟨⟨xs,ys,xs[i],ys[i],z,F,by simp[q],by simp[<-J,q]⟩,Pv (i+1),λσ' H' p'=>⟨xs.L-(i+1),by grind,rfl,q,p'⟩,λx H' y=>?_⟩;let(T,x1,y1,O,U,Y,Z,e5):=y;subst O Y;exact hs i x1 y1 T σ _ (Z xs z) (e5 ys F) p U
 .let e:i=xs.L:=by lia
  subst e;exact .inl ⟨⟨xs,ys,z,F,.inl (bA _)⟩,hd σ H p⟩
end
section
variable{β:Type}(g:β->V)
def bW(t:List (Nat×β)):List (Key×V):=t.M λp=>((Sum.inl ((p.1:Nat):Int):Key),g p.2)
def cq(t:List (Nat×β))(s:Nat):Option β:=(t.find? λp=>decide (p.1=s)).M (·.2)
def eT(t:List (Nat×β))(s:Nat)(v:β):List (Nat×β):=if (t.any λp=>decide (p.1=s))=true then t.M (λp=>if p.1=s then (p.1,v) else p) else t++[(s,v)]
def U9(a b:Nat):decide ((Sum.inl ((a:Nat):Int):Key)=Sum.inl ((b:Nat):Int))=decide (a=b):=by
 grind
theorem AD(t:List (Nat×β)):∀(s:Nat),gJ (bW g t) (Sum.inl ((s:Nat):Int))=(cq t s).M g:=by
 induction t with
 |nil=>exact @λs=>Á
 |cons p t j=>
  intro s;let j:=j s;delta bW cq gJ at j⊢;rw[a7,lZ,lZ];rw[U9];cases decide (p.1=s) with
  |true=>rfl
  |false=>exact j
def agi(t:List (Nat×β))(s:Nat):((bW g t).any λkv=>decide (kv.1=Sum.inl ((s:Nat):Int)))=t.any λp=>decide (p.1=s):=by
 ext bW;rw[JF];congr 1;funext p;exact U9 p.1 s
def Do(t:List (Nat×β))(s:Nat)(v:β):putK (bW g t) (Sum.inl ((s:Nat):Int)) (g v)=bW g (eT t s v):=by
 ext putK eT;rw[agi];split
 .ext bW;rw[cj,cj];apply iT λp _=>?_;lia
 .ext bW;simp
def yN(t:List (Nat×β)):(bW g t).L=t.L:=by ext bW;rw[ak]
theorem Ll{t:List (Nat×β)}{i:Nat}{k:Key}{v:V}(h:(bW g t)[i]? =Α (k,v)):∃s b,t[i]? =Α (s,b)/\k=Sum.inl ((s:Nat):Int)/\v=g b:=by
 delta bW at h;rw[bz] at h;cases e:t[i]? with
 |none=>rw[e] at h;cases h
 |some p=>
  rw[e] at h;let h:=aQ h;apply(p.1,p.2,Á,?_,?_)
  .exact(b9 Prod.fst h).symm
  .exact(b9 Prod.snd h).symm
theorem qO(t:List (Nat×β))(s:Nat):(t.any λp=>decide (p.1=s))=(cq t s).isSome:=by
 induction t with
 |nil=>rfl
 |cons p t j=>
  delta cq at j⊢;rw[va,lZ];cases e:decide (p.1=s) with
  |true=>rfl
  |false=>rw[RK];exact j
theorem Gs(s j:Nat)(v:β):∀t:List (Nat×β),cq (t.M λp=>if p.1=s then (p.1,v) else p) j=(cq t j).M λx=>if j=s then v else x:=by
 intro t;induction t with
 |nil=>exact Á
 |cons p t q=>
  let q:=q;delta cq at q⊢;rw[a7,lZ,lZ];let z:(if p.1=s then (p.1,v) else p).1=p.1:=by split <;> rfl
  rw[z];cases e:decide (p.1=j) with
  |false=>exact q
  |true=>
   let e:=mO e;show some ((if p.1=s then (p.1,v) else p).2)=Α (if j=s then v else p.2);rw[<-e];by_cases h:p.1=s
   .rw[ah h,ah h]
   .rw[ag h,ag h]
theorem agj(t:List (Nat×β))(s j:Nat)(v:β)(h:cq t s=Β):cq (t++[(s,v)]) j=if j=s then some v else cq t j:=by
 induction t with
 |nil=>
  show((([(s,v)]:List (Nat×β)).find? λp=>decide (p.1=j)).M (·.2))=_;rw[lZ];by_cases e:s=j
  .dsimp only;rw[eP e,ah e.symm];rfl
  .dsimp only;rw[gC e,ag λz=>e z.symm];rfl
 |cons p t F=>
  delta cq at F h⊢;rw[lZ] at h;rw[List.cons_append,lZ,lZ];cases es:decide (p.1=s) with
  |true=>rw[es] at h;cases h
  |false=>
   rw[es] at h;cases q:decide (p.1=j) with
   |false=>exact F h
   |true=>
    let q:=mO q;let es:=atU es;rw[ag λz=>es (q.R z)]
theorem Gu(t:List (Nat×β))(s j:Nat)(v:β):cq (eT t s v) j=if j=s then some v else cq t j:=by
 ext eT;rw[qO];cases e:cq t s with
 |none=>
  exact agj t s j v e
 |some x=>
  rw[ah (show(some x).isSome=true from rfl),Gs];by_cases h:j=s
  .symm
  .symm
def Va(t:List (Nat×β))(s:Nat)(v:β):(eT t s v).L<=t.L+1:=by
 ext eT;grind
def Vb(t:List (Nat×β))(s:Nat)(v:β):(eT t s v).M (·.1)=if (cq t s).isSome=true then t.M (·.1) else t.M (·.1)++[s]:=by
 ext eT;rw[qO];split
 .rw[cj];apply iT λp _=>?_;lia
 .simp
def agk{t:List (Nat×β)}{s:Nat}(h:cq t s=Β):s∉t.M (·.1):=by
 intro m;let(p,j,e):=bG.mp m;let q:(t.any λp=>decide (p.1=s))=true:=tu.mpr ⟨p,j,eP e⟩;rw[qO,h] at q;cases q
theorem Gv{t:List (Nat×β)}{s:Nat}{v:β}(h:(t.M (·.1)).Nodup):((eT t s v).M (·.1)).Nodup:=by
 rw[Vb];cases e:cq t s with
 |some x=>exact h
 |none=>exact K4 h (agk e)
theorem AE{t:List (Nat×β)}(h:(t.M (·.1)).Nodup){s:Nat}{v:β}(q:(s,v)∈t):cq t s=Α v:=by
 induction t with
 |nil=>symm
 |cons p t j=>
  rw[a7,kY] at h;delta cq at j⊢;grind
def yO(h:cq t s=Α v):(s,v)∈t:=by
 delta cq at h;let(p,j,e):=u0.mp h;grind
theorem agl(g:β->V):∀(t j:List (Nat×β)),((j++t).M (·.1)).Nodup->vA (bW g j) (bW g t)=bW g (j++t):=by
 intro t;induction t with
 |nil=>
  intro j _;rw[jF];rfl
 |cons p t q=>
  intro j h;let h2:p.1∉j.M (·.1):=by
   rw[bH,a7] at h;let:=(RO.mp h).2.2;exact λm=>this _ m _ eO Á
  let e:cq j p.1=Β:=by
   cases e:cq j p.1 with
   |none=>rfl
   |some x=>exact absurd (bG.mpr ⟨_,yO e,Á⟩) h2
  let q:=q (j++[p]) (by rw[rJ];exact h);let ep:putK (bW g j) (Sum.inl ((p.1:Nat):Int)) (g p.2)=bW g (j++[p]):=by
   rw[Do];ext eT;rw[qO,e];rfl
  show vA (putK (bW g j) (Sum.inl ((p.1:Nat):Int)) (g p.2)) (bW g t)=_;rw[ep,q,rJ];rfl
end
section
variable{X:Cx}{pins:cb}{σ:St}{H:Hp}{s:Sh}{a:Addr}{kvs:List (Key×V)}{k:Key}{d:V}{u r:Value}{A:Around}{E:VP}
def agm(I:Ã H s)(e:H a=Α đ)(hl:kvs.L<sizeLine)(ry:RelV (kV k) u)(rd:RelV d r)(O:∀v,gJ kvs k=Α v->∀W s',Ã H s'->RelV v W->Q W s')(h2:gJ kvs k=Β->∀s',Ã (ŭ (.dK (Ŕ d))) s'->Q r s'):wpAny È A (call (.builtin "dict.setdefault") [.ref a,u,r]) Q E s:=by
 let(z,hd,vs,J,dd):=C5 I.aD e;let hz:vs.L<=sizeLine:=by rw[<-J.L];exact z
 let jM:(Ŕ d).L<=sizeLine:=by let:=C0 kvs k d;lia
 apply Fo PySem.F.slot_dict_setdefault dd.typeIs PySem.F.entry_dict_setdefault (PySem.F.args_dict_setdefault_3 _ _ _) (kt_meets_setdefault Č a (xc ry) hd r) ⟨vs,dd,hz,λv Z=>?_,λY h' M hs=>?_⟩
 .let q:=J.val k;rw[Z] at q;cases j:gJ kvs k with
  |none=>rw[j] at q;exact q.elim
  |some y=>
   rw[j] at q;exact O y j v _ (I.tok _) q
 .let q:=J.val k;rw[Y] at q;let j:gJ kvs k=Β:=by
   cases j:gJ kvs k with
   |none=>rfl
   |some y=>rw[j] at q;exact q.elim
  apply h2 j _ ?_;let U:∃q,h'.I a=Α q:=let ⟨q,_,_,hq,_⟩:=M;⟨q,hq⟩;exact KU I (by rw[e];exact True.intro) hs U (Ug jM hd (J.put k rd) M)
end
def agn(td J F:TE):TE:=λσ H Q=>td σ H λx H1=>∃a,x=.ref a/\F6 H1 a/\J σ H1 λy q=>F σ q λz j=>∃kvs k,j a=Α đ/\y=kV k/\kvs.L<sizeLine/\(∀v,gJ kvs k=Α v->Q v j)/\(gJ kvs k=Β->Q z (upd j a (.dK (Ŕ z))))
def ago(ho:PE X o td)(he:ϥ ty)(hf:PE X f tx)(m:M2 X o "setdefault" jf e f gG):PE X (.Call (.Attribute o "setdefault" jf) [e,f] [] gG) (agn td ty tx):=by
 show Ú;apply JI m.base m.c6 m.line PySem.F.plainAttrs_dict PySem.F.slot_dict_setdefault PySem.F.type_dict_setdefault (aP (ho pins s σ H _ I h) λu s1 ⟨x,H1,q,rx,a,ex,d,q1⟩=>?_);subst ex;obtain rfl:u=Value.ref a:=rx;let(t1,t2,_):=KW q d;refine Èx;rw[m.trees];refine JC Á (RE (Fh (aP (he pins s1 σ H1 _ q q1) λiv s2 ⟨y,M,U,ry,q2⟩=>
  Fh (aP (hf pins s2 σ M _ U q2) λfv s3 ⟨z,O,W,J,kvs,k,Y,ey,hl,q3,q4⟩=>RB ?_))))
 subst ey;exact agm W Y hl ry J (λv Z w' s4 j jl=>⟨_,O,j,jl,q3 v Z⟩) λen s4 j=>⟨_,_,j,J,q4 en⟩
section
variable{prog:Pg}{w:Wd}{Kt:Type}[DecidableEq Kt]
def agp(knd:KeyKind prog w Kt)(a b:Addr)(U:(a==sysModules)=false)(W:(b==sysModules)=false):
  MeetsIn prog w (Builtin.«dict.__eq__» ⟨[.ref a,.ref b],[]⟩) (λ_ R s=>∃vs:List (Kt×Value),s.H.DictOf knd a vs/\s.H.DictOf knd b []/\R (.ok (.ret (.bool vs.isEmpty))) s):=
 .of_wp λA R s ⟨vs,F,J,h⟩=>by
  show wpAny _ _ (Builtin.Dict.dictSlotArgs "__eq__" ⟨[.ref a,.ref b],[]⟩ >>= _) _ _ s;apply aF ?_;ext Builtin.Dict.dictSlotArgs;apply aF (wpAny_notOrdered_dict F.typeIs ?_);show wpAny _ _ (pure (Value.ref a,Value.ref b)) _ _ s;apply cV ?_;apply aF (wpAny_isInstance (b:=true) J.typeIs Ð ?_);show wpAny _ _ (Builtin.Dict.samePairs "dict.__eq__" a b >>= _) _ _ s;let(o,es,ep,q,g2,z,g4,O,g6):=F;let(o2,j,Vc,k1,k2,k3,k4,k5,k6):=J;let Y:es.u=vs.L:=by
   let:=O.L
   rwa [yh] at this
  let Z:j.u=0:=by
   let:=k5.L
   rwa [yh] at this
  apply aF ?_;ext Builtin.Dict.samePairs;ext Builtin.Dict.showsAll;rw[ag (by rw[U];exact eN),ag (by rw[W];exact eN)];apply aF (cV (aF (cV (aF (wpAny_dictEntries q z ?_)))));dsimp only;apply aF (wpAny_dictEntries k1 k3 ?_);rw[Y,Z];cases vs with
  |nil=>
   rw[ag Ä];let fin:wpAny Í A.in1 (pure true) (λa s'=>wpAny Í A.in1 (ret (Value.bool (a==true))) (λfin s'=>∃v,fin=Fin.done (Flow.ret v)/\R (Except.ok (Flow.ret v)) s') (λe s'=>R (Except.error e) s') s') (λe s'=>R (Except.error e) s') s:=cV (cV ⟨_,rfl,h⟩);apply aF (wpAny_dictEpoch q z ?_);rw[show(([]:List (Kt×Value)).L)=0 from rfl];let M:∀(f:Nat->Option Bool×Unit->Sem (ForInStep (Option Bool×Unit))),(forIn [:0] ((none,()):Option Bool×Unit) f:Sem _)=pure (none,()):=λf=>by
    simp
   rw[M];exact aF (cV fin)
  |cons p r=>
   rw[ah Ä];exact aF (Rx (cV (cV ⟨_,Á,h⟩)))
end
inductive agr(x:V)(y:V)(H:Hp)(Q:VK):Prop
 |mk (a b kvs:_) (_:x=.ref a) (_:y=.ref b) (_:H a=Α đ) (_:H b=Α Ϥ) (_:Q (.bl kvs.isEmpty) H)
def ags(hu:X.A.units+64<cLine):fh X Áz agr:=by
 intro pins s σ H x y v u Q I rx ry ⟨a,b,kvs,U,W,h1,h2,q⟩;subst U W;cases rx;cases ry;let(z,hd,vs,Z,dd):=C5 I.aD h1;let(z2,O,vs2,j,M):=C5 I.aD h2;cases j;let Y:vs.isEmpty=kvs.isEmpty:=by cases Z <;> rfl
 show wpAny È X.A (richCompare .Eq ħ (.ref b)) _ _ s;let J:s.TypeIs ħ "dict":=dd.typeIs;let hc:wpAny È X.A (call (.builtin "dict.__eq__") [.ref a,.ref b]) (λv s'=>v≠ .notImplemented/\(ô Q v s')) X.xe s:=
  Fo PySem.F.slot_dict_eq J PySem.F.entry_dict_eq (PySem.F.args_dict_eq_2 _ _) (agp Č a b hd O) ⟨vs,dd,M,(λz=>(by cases z)),.bl vs.isEmpty,H,I,rfl,by rw[Y];exact q⟩
 exact wpAny_richCompare_same_room J M.typeIs PySem.F.slot_dict_eq hc Î
theorem agv{α β:Type}{R:α->β->Prop}{q:List α}:∀{j:List β},q.L=j.L->(∀(i:Nat)(a:α)(b:β),q[i]? =Α a->j[i]? =Α b->R a b)->Paired R q j:=by
 induction q with
 |nil=>
  intro j z _;cases j with
  |nil=>exact .nil
  |cons _ _=>cases z
 |cons a q J=>
  intro j z h;cases j with
  |nil=>cases z
  |cons b j=>exact .cons (h 0 a b Á Á) (J (À z) λi x y F h2=>h (i+1) x y F h2)
def agw:k9 X (.type "range") (λxs H Q=>∃n:Nat,xs=[.int ((n:Nat):Int)]/\∀p,H p=Β->Q Ĝ (upd H p (.tG 0 n))):=by
 intro pins s σ H xs U Q I r h;let(n,rfl,q):=h;let(u,rfl,j):=vals1 r;let(t,rfl):=j;apply call_range_1 ?_;exact(.ref s.Z,_,I.laid Æf (bA _) (show gu X.prog X.w _ _ _ (.tG 0 ((n:Nat):Int)) from⟨_,_,_,ia _ rfl⟩),Á,q _ ġ)
def agx(hc:X.calm=true):k9 X (.type "list") (λxs H Q=>∃(p:Addr)(n:Nat),xs=[.ref p]/\H p=Α (.tG 0 ((n:Nat):Int))/\n<=1000000/\∀l,H l=Β->Q Âa (ϑ (.lst ((List.range n).M λi=>V.int ((i:Nat):Int))))):=by
 intro pins s σ H xs us Q I r h;let(p,n,rfl,W,hn,q):=h;let(u,rfl,rx):=vals1 r;cases rx;let(t,u,v,e):=(I.aD p _ W);apply call_list_range (n:=n) ă e (small_one Ñ Ñ Å Î) (by rw[rangeSize_one];split <;> simp_all) Î λh' tk O M hk U F=>?_;let Z:bp ((List.range n).M λi=>V.int ((i:Nat):Int)) O.toList:=by
  apply agv (by rw[ak,ik,yh,F.1]) λi a b z h2=>?_;rw[aa7] at h2;let(t',Y):=F.2 i b h2;rw[bz] at z;cases er:Él[i]? with
  |none=>symm
  |some j=>
   rw[er] at z;let(e1,J):=bo.mp er;rw[abc] at J;subst J;cases z;subst Y;apply(t',?_);simp
 apply(.ref s.Z,_,I.laid (t':=tk) hk (bA _) (show gu X.prog X.w _ h' _ (.lst ((List.range n).M λi=>V.int ((i:Nat):Int))) from⟨?_,O.toList,M,Z,U⟩),Á,q _ ġ);rw[ak,ik,yg];lia
abbrev qP:=eM×Addr×Value
def Lm(acc b7:List qP):List qP:=b7.foldl (λa q=>storedH a q.1 q.2.1 q.2.2) acc
section
variable{prog:Pg}{w:Wd}
def Vd{h h':Heap}{k:eM}{a:Addr}(i:(tupleKind Åp).is h k a)(e:∀o,h.I a=Α o->h'.I a=Α o):(tupleKind Åp).is h' k a:=by
 let(o,j,n,q,h2,z,F):=i;exact(o,j,n,e o q,h2,z,F)
def agy{h h':Heap}{S:Addr}{xs:List qP}(d:h.DictOfH (tupleKind Åp) S xs)(e:∀o,h.I S=Α o->h'.I S=Α o)(U:∀x∈xs,∀o,h.I x.2.1=Α o->h'.I x.2.1=Α o):h'.DictOfH (tupleKind Åp) S xs:=by
 let(o,es,ep,q,z,F,J,M,O):=d;exact(o,es,ep,e o q,z,F,J,λx j=>Vd (M x j) (U x j),O)
def agz{xs:List qP}{k:eM}{a:Addr}{v:Value}{x:qP}(h:x∈storedH xs k a v):x.2.1=a\/∃y∈xs,x.2.1=y.2.1:=by
 delta storedH at h;split at h
 .let(y,j,e):=bG.mp h;apply .inr ⟨y,j,?_⟩;delta putAt at e;split at e <;> rw[<-e]
 .rcases fu.mp h with h|h
  .exact .inr ⟨x,h,Á⟩
  .let:x=(k,a,v):=by simpa using h
   exact .inl (by rw[this])
def agA(xs:List qP)(k:eM)(a:Addr)(v:Value):(storedH xs k a v).L<=xs.L+1:=by
 ext storedH;grind
end
def su(kvs:List (eM×V))(ts:List (eM×Addr×V)):List (eM×V):=ts.foldl (λacc t=>putK acc t.1 t.2.2) kvs
theorem agB(ts:List (eM×Addr×V)):∀(kvs:List (eM×V)),(su kvs ts).L<=kvs.L+ts.L:=by
 induction ts with
 |nil=>exact @λkvs=>bA _
 |cons t ts j=>
  intro kvs;let q:=j (putK kvs t.1 t.2.2);let h2:=C0 kvs t.1 t.2.2;show(su (putK kvs t.1 t.2.2) ts).L<=_;rw[dg];lia
theorem agC{H:Hp}:∀{ts:List (eM×Addr×V)}{prs:List qP}{kvs:List (eM×V)}{xs:List qP},Paired (λ(t:eM×Addr×V)(q:qP)=>t.1=q.1/\t.2.1=q.2.1/\H t.2.1=Α (.tup (t.1.M kV))/\RelV t.2.2 q.2.2) ts prs->KT H kvs xs->KT H (su kvs ts) (Lm xs prs):=by
 intro ts prs kvs xs j;induction j generalizing kvs xs with
 |nil=>exact λk=>k
 | @cons t q ts prs h r ih=>
  intro k;let(z,h2,F,J):=h;apply ih (kvs:=putK kvs t.1 t.2.2) (xs:=storedH xs q.1 q.2.1 q.2.2) ?_;rw[<-z,<-h2];exact k.put t.1 F J
section
variable{X:Cx}
def agD(hu:X.A.units+3<cLine)(K0:X.calm=true):k9 X (.type "dict") (λxs H Q=>∃(a:Addr)(ps:LA)(ts:List (eM×Addr×V)),xs=[.ref a]/\Ák a Àk/\Paired (λp(t:eM×Addr×V)=>H p=Α (.tup [.ref t.2.1,t.2.2])/\H t.2.1=Α (.tup (t.1.M kV))) ps ts/\
  ∀p,H p=Β->Q Ĝ (upd H p Èb)):=by
 intro pins s σ H xs us Q I r q;let(a,ps,ts,ex,hq,O,q):=q;subst ex;let(u,eu,rx):=vals1 r;subst eu;cases rx;let(aj,W,pl,hz):=I.list hq;let J:=Uq W;subst J;rw[ak] at hz;let z:∀{ps:LA}{ts:List (eM×Addr×V)},Paired (λp(t:eM×Addr×V)=>H p=Α (.tup [.ref t.2.1,t.2.2])/\H t.2.1=Α (.tup (t.1.M kV))) ps ts->
   ∃prs:List qP,Paired (λ(t:eM×Addr×V)(q:qP)=>t.1=q.1/\t.2.1=q.2.1/\H t.2.1=Α (.tup (t.1.M kV))/\RelV t.2.2 q.2.2) ts prs/\prs.L=ps.L/\∀(j:Nat)(q:qP),prs[j]? =Α q->∃b:Addr,ps[j]? =Α b/\IsTup s.H b #[.ref q.2.1,q.2.2]/\(tupleKind Č).is s.H q.1 q.2.1:=by
  intro ps ts O;induction O with
  |nil=>exact([],.nil,Á,λj q e=>by simp at e)
  | @cons p t ps ts h _ ih=>
   let(prs,r1,r2,r3):=ih;let(_,aj,W,ob,o1,o2,n,o3):=(I.aD p _ h.1);let(u,y,J,ru,ry):=vals2 W;subst J;cases ru;apply((t.1,t.2.1,y)::prs,.cons ⟨Á,Á,h.2,ry⟩ r1,by rw[dg,dg,r2],λj q e=>?_);cases j with
   |zero=>
    let e':=aQ e;subst e';exact(p,Á,⟨ob,o1,o2,n,o3⟩,yH I.aD h.2)
   |succ j=>
    let(b,Y,F):=r3 j q (À e);exact(b,À Y,F)
 let(prs,fC,hl,il):=z O;let(o,n,ho,hc,hd,vB):=pl;refine Um (prs:=prs) (DD:=λh acc=>h.DictOfH Ée s.Z acc/\∀x∈acc,x.2.1<s.Z) (G:=λh q u y=>u=.ref q.2.1/\y=q.2.2/\q.2.1<s.Z/\(tupleKind Č).is h q.1 q.2.1) (st:=λa q=>storedH a q.1 q.2.1 q.2.2) (I.ok.hd K0) ho hc hd vB (by simp[hl]) Å ⟨Heap.DictOfH.new s.H,by simp⟩ (λ_ _ _ d k=>⟨agy d.1 (λo e=>k _ o (bA _) e) λx U o e=>k _ o (tm (d.2 x U)) e,d.2⟩) (λ_ _ _ _ _ g k=>⟨g.1,g.2.1,g.2.2.1,Vd g.2.2.2 λo e=>k _ o g.2.2.1 e⟩)
  (λ_ acc q _ _ _ _ g d hz k=>by
   let(rfl,rfl,g1,g2):=g;apply wpAny_dictSet_heap (knd:=tupleKind Č) (Fn (qy (show X.A.units+1+1<=X.A.units+3 by simp_all) hu)) g2 d.1 (λh' M=>k h' _ ⟨M,λx U=>?_⟩) hz;rcases agz U with e|⟨y,hy,e⟩
   .rw[e];exact g1
   .rw[e];exact d.2 y hy) (λa q=>agA a q.1 q.2.1 q.2.2) Èy λh' tk j6 k=>?_
 .let(b,Y,F,Z):=il j q' e;exact(b,_,_,by simp_all,F,rfl,rfl,by let(o,_,_,g,_):=Z;exact dh g,Z)
 .let M:=yi.mpr (u5 I.big);let bZ:(su [] ts).L<=sizeLine:=by
   apply gn (agB ts []) ?_;rw[tj,vc,Paired.length fC,hl];omega
  let qH:=I.aD.fresh (bA _);let((q2,es,ep,t9,g2,g3,g4,g5,g6),_):=j6;let kt:KT (ĕ Èb) (su [] ts) (Lm [] prs):=(agC fC (kvs:=[]) (xs:=[]) .nil).keeps λb ys e=>by
   rw[az (eQ e qH)];omega
  exact(.ref s.Z,ĕ Èb,I.laid (t':=tk) k (bA _) (⟨bZ,M,Lm [] prs,kt,q2,es,ep,t9,g2,g3,g4,g6⟩),Á,q _ qH)
end
end L2
namespace HT
open PySem PyProof.Rows
section
open PySem.SeqAt
open PySem.AutoSeq1 (wpAny_loadPart')
open PySem.MeetsSeq PySem.MeetsSeq2 PySem.MeetsSeq3
def Ve{items:Array Value}{i:Nat}{v:Value}{r:LV}(h:items.toList.drop i=v::r):items[i]? =Α v/\items.toList.drop (i+1)=r:=by
 let j:(items.toList.drop i)[0]? =Α v:=by rw[h];rfl
 rw[abd,RP,aa7] at j;apply(j,?_);let:(items.toList.drop i).drop 1=r:=by rw[h];rfl
 rw[List.drop_drop] at this;exact this
theorem agF(l b:Addr)(items j:Array Value)(n n2:Nat)(dd nI:OA)(sl oA:AO)(k:Nat):∀(i:Nat)(ns ms:LI),IntsAre (items.toList.drop i) ns->IntsAre (j.toList.drop i) ms->ns.L=k->i<=items.u->i<=j.u->
  Meets (Builtin.«list.__eq__.loop» ⟨[.ref l,.ref b,rawInt i,rawInt 0],[]⟩)
   (λ_ R s=>s.U l=Α {cls:=.type "list",dict:=dd,data:=.seq items n,slots:=sl}/\s.U b=Α {cls:=.type "list",dict:=nI,data:=.seq j n2,slots:=oA}/\
    R (.ok (.ret ώ)) s):=by
 induction k with
 |zero=>
  intro i ns ms hi O hk h1 h2 prog w A R s h;let(Y,g,d,tk,os):=s;let(z,q,h):=h;let W:ns=[]:=RQ.mp hk;subst W;let J:=hi.L;let F:=O.L;rw[aa6,yh] at J F;simp only[tj] at J;let M:items[((i:Nat):Int).toNat]? =Β:=by simp;lia
  wp_walk using jE z,jE q
  rw[M]
  wp_walk using jE z,jE q
  show R (.ok (.ret (.bool (decide (items.u<j.u))))) _;let e:lexLt [] ms=decide (items.u<j.u):=by
   cases ms with
   |nil=>
    rw[S2];simp only[tj] at F;exact(gC Î).symm
   |cons c ms=>
    rw[S3];simp only[dg] at F;exact(eP (by grind)).symm
  rw[<-e];exact h
 |succ k ih=>
  intro i ns ms hi O hk h1 h2 prog w A R s h;let(Y,g,d,tk,os):=s;let(z,q,h):=h;let J:=hi.L;let F:=O.L;rw[aa6,yh] at J F;generalize ed1:items.toList.drop i=d1 at hi;generalize ed2:j.toList.drop i=d2 at O;cases hi with
  |nil=>cases hk
  | @cons a t AA tJ hi'=>
   let(Z,g2):=Ve ed1;let M:items[((i:Nat):Int).toNat]? =Α (.int a t):=À Z
   cases O with
   |nil=>
    let U:j[((i:Nat):Int).toNat]? =Β:=by simp only[tj] at F;simp;symm
    wp_walk using jE z,jE q
    rw[M,U]
    wp_walk using jE z,jE q
    show R (.ok (.ret (.bool (decide (items.u<j.u))))) _;rw[S4] at h;simp only[tj,dg] at J F;rw[gC Î];exact h
   | @cons c u ws' nJ Gw=>
    let(g3,g4):=Ve ed2;let U:j[((i:Nat):Int).toNat]? =Α (.int c u):=À g3
    let hc:((i:Int)+1)=((i+1:Nat):Int):=by push_cast;rfl
    let z1:i<items.u:=by simp only[dg] at J;lia
    let z2:i<j.u:=by simp only[dg] at F;lia
    rw[vy] at h
    wp_walk using jE z,jE q
    rw[M,U];apply aF (EqGives.int a c t u prog w _ _ _ _ ?_);cases qE:(a==c) with
    |true=>
     rw[ah (À qE)] at h
     wp_walk
     rw[hc];exact⟨vb plain_eq_loop _,BX entry_eq_loop (by
      rw[BY plain_eq_loop _];exact ih (i+1) tJ nJ (by rw[g2];exact hi') (by rw[g4];exact Gw) (À hk) z1 z2 prog w A R _ ⟨z,q,h⟩)⟩
    |false=>
     rw[ag (À qE)] at h
     wp_walk using jE z,jE q
     rw[M,U];let rZ:=Kx A.in1 ⟨Y,g,d,tk,os⟩ a t c u prog w
     wp_walk using rZ
     exact h
def agH(l b:Addr)(items j:Array Value)(n F:Nat)(dd J:OA)(sl O:AO)(ns ms:LI)(hi:IntsAre items.toList ns)(M:IntsAre j.toList ms):
  Meets (Builtin.«list.__lt__» ⟨[.ref l,.ref b],[]⟩)
   (λ_ R s=>s.U l=Α {cls:=.type "list",dict:=dd,data:=.seq items n,slots:=sl}/\s.U b=Α {cls:=.type "list",dict:=J,data:=.seq j F,slots:=O}/\
    R (.ok (.ret ώ)) s):=by
 intro prog w A R s h;let(W,g,d,tk,os):=s;let(z,q,h):=h;let U:=AutoSeq1.sub_list_list
 wp_walk using jE z,jE q
 exact⟨vb plain_eq_loop _,BX entry_eq_loop (by
  rw[BY plain_eq_loop _];exact agF l b items j n F dd J sl O _ 0 ns ms hi M Á (di _) (di _) prog w A R _ ⟨z,q,h⟩)⟩
end
end HT
namespace HT
open PySem PyProof.Rows
section
open PySem.SeqAt
open PySem.AutoSeq1 (wpAny_loadPart')
open PySem.MeetsSeq PySem.MeetsSeq2 PySem.MeetsSeq3
def agI(l b la lb:Addr)(n n2:Nat)(dd nI:OA)(sl oA:AO)(a c:Int)(t u:Tok)(e r:Bool)(W:e=true->r=false):
  Meets (Builtin.«tuple.__lt__» ⟨[.ref l,.ref b],[]⟩)
   (λA R s=>s.U l=Α {cls:=.type "tuple",dict:=dd,data:=.seq #[.int a t,.ref la] n,slots:=sl}/\s.U b=Α {cls:=.type "tuple",dict:=nI,data:=.seq #[.int c u,.ref lb] n2,slots:=oA}/\
    EqAt A.in1 s Åm Ål e/\(∀(prog:Pg)(w:Wd)(E:VP)(Q:VP),Q (.bool r) s->wpAny Í A.in1 (richCompare .Lt Åm Ål) Q E s)/\
    R (.ok (.ret (.bool (if a=c then r else decide (a<c))))) s):=
 .of_wp λprog w A R s h=>by
  let(z,g,d,tk,os):=s;let(hl,hb,U,Y,h):=h;let f2:=atB
  wp_walk using jE hl,jE hb,wpAny_forIn_list _ (λb7 b s'=>b.1=Β/\s'=⟨z,g,d,tk,os⟩/\(b7=[(Value.int a t,Value.int c u),(Value.ref la,Value.ref lb)]\/(b7=[(Value.ref la,Value.ref lb)]/\a=c)\/(b7=[]/\a=c/\e=true))) _
  case turn=>
   rintro⟨y,x⟩ b7 b s' ⟨F,rfl,hz⟩;rcases hz with hz|⟨hz,j⟩|⟨hz,_⟩
   .injection hz with hyx hrest;injection hyx with hy hx;subst hy hx;let(Z,O,M):=S5 A.in1 ⟨z,g,d,tk,os⟩ a t c u;apply aF (O prog w _ _ ?_);cases Z with
    |true=>
     wp_walk
     exact(Á,Á,.inr (.inl ⟨hrest,M.mp Á⟩))
    |false=>
     rw[ag (λq=>absurd (M.mpr q) eN)] at h;let J:=Kx A.in1 ⟨z,g,d,tk,os⟩ a t c u prog w
     wp_walk using J
     exact(_,Á,À h)
   .injection hz with hyx hrest;injection hyx with hy hx;subst hy hx;apply aF (U prog w _ _ ?_);cases e with
    |true=>
     wp_walk
     exact(Á,Á,.inr (.inr ⟨hrest,j,Á⟩))
    |false=>
     rw[ah j] at h;let J:=Y prog w
     wp_walk using J
     exact(_,Á,À h)
   .cases hz
  case fin=>
   rintro⟨b1,b2⟩ s' ⟨F,rfl,hz⟩;simp only at F;subst F;rcases hz with hz|⟨hz,j⟩|⟨hz,j,he⟩
   .cases hz
   .cases hz
   .rw[ah j,W he] at h
    wp_walk
    exact(_,Á,by simpa [Builtin.Tuple.tupleCompareSizes] using h)
  case h=>
   exact(Á,Á,.inl Á)
end
end HT
namespace L2
open PySem PySem.Spec PyProof.Rows
inductive Vf(K:FR)(x:V)(y:V)(H:Hp)(Q:VK):Prop
 |mk (p q la lb:Addr) (a c:Int) (ns ms:LI) (_:x=.ref p) (_:y=.ref q) (_:š p [.int a,.ref la]) (_:š q [.int c,.ref lb]) (_:ä la Ŭ) (_:ä lb (ms.M V.int)) (_:Q (.bl (if a=c then HT.lexLt ns ms else decide (a<c))) H)
theorem agJ:∀ns:LI,HT.lexLt ns ns=false:=by
 intro ns;induction ns with
 |nil=>exact Á
 |cons x ns j=>
  rw[HT.vy,ah rfl];exact j
theorem Vg{ns:LI}:∀{U:LV},bp Ŭ U->IntsAre U ns:=by
 induction ns with
 |nil=>
  intro _ r;cases r;exact .nil
 |cons n ns j=>
  intro _ r;cases r with
  |cons h t=>
   let(tk,rfl):=h;exact .cons n tk (j t)
def agK(hu:X.A.units+128<cLine):fh X Èh (Vf X.K):=by
 intro pins s σ H x y v u Q I rx ry ⟨p,q,la,lb,a,c,ns,ms,e1,e2,hp,hq,h1,h2,k⟩;subst e1 e2;cases rx;cases ry;let(aj,rv,(o,ho,hc,n,hd),_):=I.tuple hp;let(oB,Ax,(o2,r6,lg,n2,df),_):=I.tuple hq;let(u1,u2,ei,r1,r2):=vals2 rv;let(w1,w2,z,r3,r4):=vals2 Ax;subst ei z;let(t,rfl):=r1;let(t2,rfl):=r3;cases r2;cases r4;let(J,O,(p1,m1,g1,c1,d1,f1),_):=I.list h1;let(M,U,(p2,m2,g2,c2,d2,f2),_):=I.list h2;let i1:=Vg O;let i2:=Vg U;let(cls,Aa,data,sl):=o;let(S7,j,data2,oA):=o2;let(auz,auA,data3,W):=p1;let(auB,auC,auD,Y):=p2;simp only at hc hd lg df c1 d1 f1 c2 d2 f2;subst hc hd lg df c1 d1 f1 c2 d2 f2;let(as,ra):=Dp.reads I (.list (ns.M PyData.int)) Åm Åm (.lst h1 (qN ns)) rfl;let(bs,rb):=Dp.reads I (.list Äw) Ål Ål (.lst h2 (qN ms)) rfl;let Z:SeqAt.EqAt X.A.in1 s Åm Ål (PyData.eqvAll (ns.M PyData.int) Äw):=by
  apply SeqAt.eqAt_reads _ (.list Äw) X.A.in1 s Åm Ål as bs ra rb (RN (shaped_ints ns)) (RN (shaped_ints ms)) ?_;let:=SeqAt.depth_of_shaped (shaped_ints ns);grind
 rw[xn] at Z;let bO:∀(prog:Pg)(w:Wd)(E:VP)(Q:VP),Q (.bool Ϣ) s->wpAny Í X.A.in1 (richCompare .Lt Åm Ål) Q E s:=λprog w E Q h=>
  RD (op:=.Lt) ⟨_,g1,rfl⟩ ⟨_,g2,rfl⟩ PySem.F.slot_list_lt PySem.F.entry_list_lt (PySem.F.args_list_lt_2 _ _) (HT.agH la lb J.toArray M.toArray m1 m2 none none W Y ns ms (by simpa using i1) (by simpa using i2))
   ⟨g1,g2,show Value.bool Ϣ≠Value.notImplemented/\Q (.bool Ϣ) s from⟨(λx=>nomatch x),h⟩⟩ (by show X.A.units+1<cLine;lia)
 let Ln:decide (ns=ms)=true->HT.lexLt ns ms=false:=λe=>by
  let:ns=ms:=mO e;rw[this];exact agJ ms
 exact RD (op:=.Lt) ⟨_,ho,Á⟩ ⟨_,r6,Á⟩ PySem.F.slot_tuple_lt PySem.F.entry_tuple_lt (PySem.F.args_tuple_lt_2 _ _) (HT.agI p q la lb n n2 Aa j sl oA a c t t2 (decide (ns=ms)) Ϣ Ln)
  ⟨ho,r6,Z,bO,(λx=>nomatch x),.bl _,H,I,rfl,k⟩ Î
end L2
namespace L2
open PySem PySem.Spec PyProof.Rows
def Lo(K:FR)(c T:Addr):Prop:=∀h:Heap,K.In h->PySem.W.CodeHd h c T
def Ds(mg:MG)(base:Heap):Prop:=∃bm O,mg "__builtins__"=Α (.ref bm)/\bm≠builtinsNs/\base.I bm=Α O/\O.cls=.type "module"/\O.dict=Α builtinsNs/\O.data=.plain
section
variable{X:Cx}{x:Str}{i:Nat}{p pos:Pos}{e:Expr}{es:List Expr}{t:TA}{k:Nat}{f:Addr}{fd:FD}{ps:LS}{sp:Sp}
def agT(i:Nat)(f:Addr)(sp:Sp)(t:TA):TE:=λσ H Q=>σ[i]? =Α Âr/\t σ H λvs H1=>sp vs H1 Q E0
def agU(F:ý aE k f fd ps sp)(hr:eS k X.A)(hk:PySem.W.keepIn X.K ď=true)(hb:ŉ [])(hN:X.N[i]? =Α x)(hv:yp X.env.scope x)(ha:PA X (e::es) t)(hd:(x==("__debug__":Str))=false:=by decide)(ny:(x==("__classdict__":Str))=false:=by decide)(he:starEach (e::es) X.env=(false,eval e X.env)::starEach es X.env:=by rfl) (dY:(backTo pos û).any (·.1)=false:=by rfl):PE X (.Call Ϗ (e::es) [] pos) (agT i f sp t):=by
 show Ú;let(hf,h):=h;let lv:=Sr (X:=X) (pos:=p) hN hv hd ny pins s σ H (λv H1=>v=.ref f/\H1=H) I ⟨_,hf,rfl,rfl⟩;apply zT (jD lv (λu s1 ⟨v,H1,Y,rv,ev,eh⟩=>?_) λ_ _ z=>z);subst ev eh;cases rv;apply PySem.W.callWith_K (h₀:=X.base) Y.ok.mod.wJ hk (aP (ha pos pins s1 σ H1 _ Y h) λU M ⟨vs,O,j,r,q⟩=>⟨j.gD,?_⟩) he dY;let hl:(U++[]).L=ps.L:=by rw[jF,<-r.L];exact F.len _ _ _ _ q
 let Z:=hb M U j.gD hl;rw[jF] at Z;apply Fc (yf (F.run X.A X.stack M O ⟨U,[]⟩ U vs _ E0 hr j.Cw Z r q) λr s' J=>?_);cases r with
 |error e=>exact tW pins σ O M e s' j J
 |ok fl=>
  cases fl with
  |ret u=>exact j.after J
  |next=>exact False.elim J
  |brk=>exact False.elim J
  |cont=>exact False.elim J
end
end L2
namespace PySem
namespace XL
open AutoSeq1 (wpAny_loadPart')
section
variable{prog:Pg}{w:Wd}{A:Around}{E:VP}{s:Sh}{d S:Addr}{K:Type}[DecidableEq K]{knd:KeyKind prog w K}{kvs:List (K×Value)}{ep:Nat}
def agV{Q:Bool->Shared->Prop}(j:s.TypeIs Áf "dict")(h:Q false s):wpAny Í A (Builtin.List.listLengthHint Áf) Q E s:=by
 ext Builtin.List.listLengthHint;apply aF (wpAny_specialOf j F.slot_dict_len.Q ?_);generalize hid:("dict.__len__":String)=q
 wp_delta
 rw[show splitId q=Α ("dict","__len__") from by subst hid;decide+kernel];subst hid;apply aF (wpAny_isInstance (T:="dict") (b:=true) j (by rw[isSubtype_type];kernel_rfl) ?_);refine abe (λz=>absurd z Ñ) Èz;refine abe Èz (λz=>absurd É z);apply aF (RL j ?_);exact cV h
def agW{R:Result->Shared->Prop}(hh:A.handled=Β)(hd:(d==sysModules)=false)(O:s.H.DictAt knd d kvs ep)(bZ:kvs.L<=sizeLine)(res:Value)(c0:Nat)(M:s.U S=Α {cls:=.type "list",data:=.seq #[] c0})(hR:∀h' tk U j,(∀b o,b≠S->s.U b=Α o->h'.I b=Α o)->h'.I S=Α {cls:=.type "list",dict:=Β,data:=.seq U j,slots:= #[]}->
   ItemsOf (λi v=>∃k x,kvs[i]? =Α (k,x)/\knd.is k v=true) U kvs.L->R (.ok (.ret res)) {s with heap:=h',toks:=tk}):
  wpAny Í A.in1 (Builtin.List.listExtendWith (.ref S) Áf res)
   (λfin s'=>match fin with|.done f=>R (.ok f) s'|.again j=>j.quiet=true/\codeAny Í A j R s') (λe s'=>R Ϯ s') s:=by
 let hT:=O.dictOf.typeIs;let J:S≠d:=λe=>by
  let(o,ho,hc):=hT;rw[e] at M;rw[M] at ho;cases ho;exact absurd (show Value.type "list"=Value.type "dict" from hc) Ñ
 let vC:S≠s.Z:=fU (dh M);let hdI:d≠s.Z:=fU O.lt_size;let W:=(Walks.dictKeys (knd:=knd) (A:=A.in1) hh s.Z d hdI kvs ep).toS;let hZ:∀(h:Heap)(Z tk:Nat),h.IsKeyIter s.Z d 0 kvs.L ep->h.DictAt knd d kvs ep->(∀b o,b≠S->s.U b=Α o->h.I b=Α o)->
   h.I S=Α {cls:=.type "list",data:=.seq #[] Z}->codeAny Í A (.builtin "list.extend.loop" ⟨[.ref S,.ref s.Z,res],[]⟩) R {s with heap:=h,toks:=tk}:=by
  intro h Z tk iQ m4 hk z;apply codeAny_extend_loopS W bZ S (by simp[vC,J]) res kvs.L 0 _ #[] Z Á (di _) ⟨iQ,m4⟩ z (ItemsOf.nil _) λs' U j AH Lp AF=>?_;rw[Moved.eq_with AH];apply hR s'.H s'.toks U j (λb o q e=>AH.H b o (λic=>?_) (hk b o q e)) Lp AF;rcases a8.mp ic with e'|ic
  .exact q e'
  .exact absurd (dh e) (by rw[iS.mp ic];exact nq _)
 ext Builtin.List.listExtendWith;apply aF (RL hT ?_);let h1:Builtin.List.listSameRef (.ref S) Áf=false:=by simp[Builtin.List.listSameRef,J]
 let h2:(Value.type "dict"==Value.type "list")=false:=by decide
 let h3:(Value.type "dict"==Value.type "tuple")=false:=by decide
 simp only[h1,h2,h3,abf,RI,RJ];apply aF (wpAny_pyIter_dict (knd:=knd) hd O ?_);let Y:=O.push {cls:=.type "dict_keyiterator",data:=.fields #[.ref d,.int 0 0,.int kvs.L 0,.int ep 0]};let F8:(s.o {cls:=.type "dict_keyiterator",data:=.fields #[.ref d,.int 0 0,.int kvs.L 0,.int ep 0]}).IsKeyIter s.Z d 0 kvs.L ep:=⟨_,ia _ rfl,rfl,rfl⟩;let z:=du {cls:=.type "dict_keyiterator",data:=.fields #[.ref d,.int 0 0,.int kvs.L 0,.int ep 0]} M;apply aF (Fb (agV (s:={s with heap:=s.o {cls:=.type "dict_keyiterator",data:=.fields #[.ref d,.int 0 0,.int kvs.L 0,.int ep 0]}}) (Heap.DictOf.typeIs (knd:=knd) Y.dictOf) ?_));refine abe Èz (λ_=>cV ⟨vb F.plain_extend_loop _,hZ _ c0 s.toks F8 Y (λb o _ e=>du _ e) z⟩);apply aF (Rx ?_);apply aF ?_;show wpAny _ _ (updateSeq S (·.push .none) >>= λ_=>updateSeq S (·.pop)) _ _ _;apply aF (Fp z Á ?_);let Gz:=u6 (Obj.mapSeq (·.push Value.none)) z rfl;apply Fp (hz:=by seq_fits) Gz Á ?_;let hS3:=u6 (Obj.mapSeq (·.pop)) Gz rfl;apply cV ⟨vb F.plain_extend_loop _,hZ _ _ _ (F8.at λo e=>?_) (Y.at' λo e=>?_) (λb o q e=>?_) hS3⟩
 .exact(kW _ _ vC).R ((kW _ _ vC).R e)
 .exact(kW _ _ J).R ((kW _ _ J).R e)
 .exact(kW _ _ (eE q)).R ((kW _ _ (eE q)).R (du _ e))
def agZ{Q:VP}(hh:A.handled=Β)(hd:(d==sysModules)=false)(z:s.H.DictAt knd d kvs ep)(bZ:kvs.L<=sizeLine)(hQ:∀h' tk O q,(∀b o,s.U b=Α o->h'.I b=Α o)->h'.I s.Z=Α {cls:=.type "list",dict:=Β,data:=.seq O q,slots:= #[]}->
   ItemsOf (λi v=>∃k x,kvs[i]? =Α (k,x)/\knd.is k v=true) O kvs.L->Q ú {s with heap:=h',toks:=tk}):
  wpAny Í A (call (.type "list") [.ref d]) Q E s:=by
 refine callType_codes (Q₁:=λobj J=>obj=.ref s.Z/\J={s with heap:=s.o {cls:=.type "list",data:=.seq #[]}}) F.called_list (F.typeCall_list_1 _) F.entry_list_init
  (code_list_new _ ⟨rfl,rfl⟩) λobj J h₁=>?_
 let(rfl,rfl):=h₁;let j:(s.o {cls:=.type "list",data:=.seq #[]}).I s.Z=Α {cls:=.type "list",data:=.seq #[]}:=ia _ rfl;let U:=z.push {cls:=.type "list",data:=.seq #[]};apply(⟨_,j,Á⟩,F.args_list_init_2 _ _,?_);show wpAny _ _ (do let jC <-Builtin.List.listItems ú;Builtin.List.listUpdate ú (λ_=> #[]);letGo jC.toList.reverse;Builtin.List.listExtendWith ú Áf .none) _ _ _;apply aF ?_;ext Builtin.List.listItems;apply aF (BS j Á (cV ?_));show wpAny _ _ (updateSeq s.Z (λ_=> #[]) >>= λ_=>letGo (#[]:Array Value).toList.reverse >>= λ_=>Builtin.List.listExtendWith ú Áf .none) _ _ _;apply aF (Fp j Á ?_);let W:=u6 (Obj.mapSeq (λ_=>(#[]:Array Value))) j rfl;let Z:d≠s.Z:=fU z.lt_size;apply aF (JL ?_);apply agW (A:=A.in1) hh hd (U.at' λo e=>(kW _ _ Z.symm).R e) bZ .none _ W λh' tk O q hk Y M=>?_;exact(Á,hQ h' tk O q (λb o e=>hk b o Èq ((kW _ _ (fU (dh e)).symm).R (du _ e))) Y M)
end
end XL
end PySem
namespace L2
open PySem PySem.Spec PyProof.Rows
theorem ag0{xs:ay}{U:LV}(j:xs.L=U.L)(h:∀(i:Nat)x u,xs[i]? =Α x->U[i]? =Α u->RelV x u):bp xs U:=by
 induction xs generalizing U with
 |nil=>
  cases U with
  |nil=>exact .nil
  |cons _ _=>cases j
 |cons x xs z=>
  cases U with
  |nil=>cases j
  |cons u U=>exact .cons (h 0 x u Á Á) (z (À j) λi a b q h2=>h (i+1) a b q h2)
def ag1{X:Cx}(hc:X.calm=true):k9 X (.type "list") (λxs H Q=>∃d kvs,xs=[V.ref d]/\H d=Α đ/\∀l,H l=Β->Q Âa (ϑ (.lst (kvs.M λp=>kV p.1)))):=by
 intro pins s σ H vs us Q I r h;let(d,kvs,rfl,hd,q):=h;let(O,j,vs,kv,F):=C5 I.aD hd;let J:kvs.L=vs.L:=Paired.length kv;let(ep,F):=F.dictAt;rw[bp.Ar r];apply XL.agZ ă j F (by rw[<-J];exact O) λh' tk oH Y hk hS W=>?_;apply(.ref s.Z,ĕ (.lst (kvs.M λp=>kV p.1)),I.laid (t':=tk) hk (bA _) ⟨by rw[ak];exact O,oH.toList,Y,?_,hS⟩,Á,q _ ġ);apply ag0 (by let h9:=W.1;rw[ak,J];simp[h9]) λi x u M h2=>?_;let(k,z,Z,h4):=W.2 i u (by rw[<-h2];simp);rw[bz] at M;let(p,hp,rfl):=u0.mp M;let(k',v'):=p;let(u',U,ru):=K1 kv hp;rw[Z] at U;cases U;exact Ut (show rM k u=true from h4)
end L2
namespace PySem
namespace XL
section
variable{prog:Pg}{w:Wd}{A:Around}{E:VP}{R:Result->Shared->Prop}{I S:Addr}{fp wr:LA}{G:Array GenState->Array GenState->Prop}{n:Nat}{P:Nat->Value->Prop}{St:Nat->Shared->Prop}{bt:Nat->Nat->Bool}
def Vh(prog:Pg)(w:Wd)(A:Around)(P:Nat->Value->Prop)(St:Nat->Shared->Prop)(bt:Nat->Nat->Bool):Prop:=
 ∀k i j u v(s:Sh)(Q:VP)(E:VP),St k s->P i u->P j v->Q (.bool (bt i j)) s->wpAny Í A (richCompare .Lt u v) Q E s
def ag3(W:WalksS prog w A.in1 I fp wr G n P St)(hc:Vh prog w A.in1 P St bt)(hS:S∉fp):
  ∀(k j:Nat)(s:Sh)(b:Value)(c:Nat),n-(j+1)=k->j+1<=n->St (j+1) s->P Ék b->s.U S=Α {cls:=.type "list",dict:=Β,data:=.seq #[b,b] c,slots:= #[]}->
  (∀v s',P (argBest bt (n-1)) v->Moved (S::wr) G s s'->R (.ok (.ret v)) s')->codeAny Í A (.builtin "min.loop" ⟨[.ref I,.none,.ref S],[]⟩) R s:=by
 let h1:S∉wr:=λh=>hS (W.sub _ h);let h2:∀b∈wr,b∈S::wr:=λb z=>aK _ z;let nm:(toString "min"++toString ".loop":String)="min.loop":=by decide
 let h3:∀{b:Addr},b∉S::wr->S≠b:=λz h=>z (by rw[h];exact eO);intro k;induction k with
 |zero=>
  intro j s b c hk hj st z hs M;let e:j+1=n:=by grind
  apply BX abg ?_;rw[BY BZ _];apply aF (BS hs Á ?_);apply aF (JJ (W.done s _ _ (e▸ st) λs' F=>?_));apply aF ?_;apply Fp (F.H S _ h1 hs) Á (aF (JL (cV ?_)));exact M b _ (by rw[<-e];exact z) ((F.mono h2).then_heap (tk:=s'.toks) (bA _) λx o J q=>(kW _ _ (h3 J)).R q)
 |succ k ih=>
  intro j s b c hk hj st z hs M;let U:j+1<n:=by omega
  apply BX abg ?_;rw[BY BZ _];apply aF (BS hs Á ?_);apply aF (JJ (W.item (j+1) s _ _ U st λv s' hP Y F=>?_));let Z:=F.H S _ h1 hs;show wpAny _ A.in1 (tryCatch (holding [v,v] (richCompare .Lt v b >>= _)) _ >>= _) _ _ _;apply aF (JJ (Fb (aF (hc _ (j+1) Ék v b _ _ _ Y hP z ?_))));apply aF (Fb (tp ?_));apply aF (JL (cV ?_));cases q:bt (j+1) Ék with
  |true=>
   simp only[Fk];apply aF ?_;apply Fp Z Á (aF (JL ?_));rw[nm];apply cV ⟨vb BZ _,ih (j+1) _ v _ (by grind) U (W.frame _ s' _ s'.toks Y (bA _) λx J o e=>?_) (by simp only[argBest,q,Fk];exact hP) (u6 _ Z Á) λv' s2 O xh=>?_⟩
   .exact(kW _ _ (λh:S=x=>hS (by rw[h];exact J))).R e
   .exact M v' s2 O (Moved.trans W.gtrans ((F.mono h2).then_heap (by first|exact bA _|exact Fi _|omega) λx o J e=>(kW _ _ (h3 J)).R e) xh)
  |false=>
   simp only[RI,RJ];apply aF (JL ?_);rw[nm];exact cV ⟨vb BZ _,ih (j+1) _ b c (by omega) U Y (by simp only[argBest,q,RI,RJ];exact z) Z λv' s2 O xh=>M v' s2 O (Moved.trans W.gtrans (F.mono h2) xh)⟩
def ag4{x:Value}{s:Sh}{Q:VP}(h:wpAny Í A.in1 (pyIter x) (λO j=>∃I fp wr G n P St bt,O=.ref I/\WalksS prog w A.in1 I fp wr G n P St/\St 0 j/\(∀b∈fp,b<j.Z)/\0<n/\Vh prog w A.in1 P St bt/\
   ∀v s',P (argBest bt (n-1)) v->Moved wr G j s'->Q v s') E s):wpAny Í A (call (.builtin "min") [x]) Q E s:=by
 let nm:(toString "min"++toString ".loop":String)="min.loop":=by decide
 apply call_function_tree F.kind_min F.plain_min F.entry_min (F.args_min1 _) ?_;apply aF (wpAny_of_eq (show Builtin.Builtins.bindParams "min" ["key","default"] 0 ⟨[],[]⟩=pure [none,none] from rfl) ?_);apply aF (cV ?_);apply aF (jD h (λO j h2=>?_) λ_ _ e=>e);let(I,fp,wr,G,n,P,St,bt,rfl,W,st,w8,M,hc,hQ):=h2;apply aF (Jx ?_);let J:j.Z∉fp:=λz=>nq _ (w8 _ z);let Z:j.Z∉wr:=λh=>J (W.sub _ h);let h3:∀{b:Addr},b∉j.Z::wr->j.Z≠b:=λq h=>q (by rw[h];exact eO);rw[nm];apply cV ⟨vb BZ _,?_⟩;let st:=W.frame 0 j (j.o {cls:=.type "list",data:=.seq #[]}) j.toks st (bA _) λb _ o e=>du _ e;apply BX abg ?_;rw[BY BZ _];apply aF (BS (ia _ Á) Á ?_);apply aF (JJ (W.item 0 _ _ _ M st λv s' hP ji z=>?_));let U:=z.H j.Z _ Z (ia _ rfl);show wpAny _ A.in1 (updateSeq j.Z (λ_=> #[v,v]) >>= _) _ _ _;apply aF ?_;apply Fp U Á ?_;rw[nm];apply cV ⟨vb BZ _,ag3 W hc J _ 0 _ v _ Á M (W.frame _ s' _ s'.toks ji (bA _) λb q o e=>?_) hP (u6 _ U Á) λv' s3 Y yP=>?_⟩
 .exact(kW _ _ (λh=>J (by rw[h];exact q))).R e
 .refine hQ v' s3 Y (Moved.drop_new (tk:=j.toks) (Moved.trans W.gtrans ((z.mono λb q=>aK _ q).then_heap (by first|exact bA _|exact Fi _|omega) λb o q e=>(kW _ _ (h3 q)).R e) yP) (bA _))
end
end XL
end PySem
namespace L2
open PySem PySem.Spec PyProof.Rows
abbrev mi(c:Nat×Nat):Int:=((c.1*2^64+c.2:Nat):Int)
def ag5{a b:Nat×Nat}(z:a.2<2^64)(F:b.2<2^64):HT.lexLt [((a.1:Nat):Int),((a.2:Nat):Int)] [((b.1:Nat):Int),((b.2:Nat):Int)]=decide (mi a<mi b):=by
 let(j,J):=a;let(q,M):=b;dsimp only at z F;rw[qx,lY];ext mi;simp only[HT.lexLt];by_cases h:j=q
 .subst h;simp
  try lia
 .let h':¬((j:Int)=(q:Int)):=by lia
  simp[h,h'];lia
def ag6(K:FR):ay->Hp->VK->Prop:=λvs H Q=>∃(a:Addr)(ps:LA)(cs:cE),vs=[V.ref a]/\ä a Àk/\ps.L=cs.L/\(∀(i:Nat)p c,ps[i]? =Α p->cs[i]? =Α c->š p [.int ((c.1:Nat):Int),.int ((c.2:Nat):Int)]/\c.2<2^64)/\0<ps.L/\
 ∀(i:Nat)p c,ps[i]? =Α p->cs[i]? =Α c->(∀d∈cs,mi c<=mi d)->Q Ĝ H
def ag7{X:Cx}(hc:X.calm=true)(hu:X.A.units+1<cLine):k9 X (.builtin "min") (ag6 X.K):=by
 intro pins s σ H vs us Q I r h;let(a,ps,cs,rfl,hs,hl,ht,aL,q):=h;let(M,rv,pl,_):=I.list hs;let iQ:∀(i:Nat)v,M[i]? =Α v->∃p,ps[i]? =Α p/\v=.ref p:=λi v e=>by
  let bZ:=rv.L;rw[ak] at bZ;let dm:=(bo.mp e).1;apply(ps[i]' Å,cI _,?_);let(u,F1,ru):=rv.get (i:=i) (x:=V.ref (ps[i]'(by omega))) (by rw[bz,cI (by omega)];rfl);rw[e] at F1;cases F1;cases ru;rfl
 let hsz:M.toArray.u=ps.L:=by
  let bZ:=rv.L;rw[ak] at bZ;simp[bZ]
 rw[bp.Ar r];let tup:∀(i:Nat)p c,ps[i]? =Α p->cs[i]? =Α c->∃o,s.U p=Α o/\∀h:Heap,h.I p=Α o->∃js,IsTup h p js/\IntsAre js.toList [((c.1:Nat):Int),((c.2:Nat):Int)]:=λi p c h1 h2=>by
  let(js,r1,(o,Z,gH,n,hd),_):=I.tuple (ht i p c h1 h2).1;exact(o,Z,λh e=>⟨js.toArray,⟨o,e,gH,n,hd⟩,intsAre_of (ns:=[((c.1:Nat):Int),((c.2:Nat):Int)]) r1⟩)
 let bO:a<s.Z:=by let(_,_,e,_):=pl;exact dh e
 let KY:a≠s.Z:=fU bO;let Vi:∀p∈ps,p<s.Z:=λp F=>by
  let(i,hi,rfl):=nr F;let(o,Z,_):=tup i ps[i] (cs[i]' Î) (cI hi) (cI (by omega));exact dh Z
 apply XL.ag4 (Rz pl.isList ?_);let Y:=Walks.list (prog:=X.prog) (w:=X.w) (A:=X.A.in1) ă s.Z a KY M.toArray;let W:Walks X.prog X.w X.A.in1 s.Z ([s.Z,a]++ps) [s.Z] M.toArray.u (λi v=>M.toArray[i]? =Α v) (λi h=>(h.IsListIter s.Z a i/\h.IsList a M.toArray)/\∀p∈ps,∀o,s.U p=Α o->h.I p=Α o):=
  ⟨λb J=>wD _ (Y.sub b J),λi h h' st hk=>⟨Y.frame i h h' st.1 λb J=>hk b (wD _ J),λp F o e=>hk p (rG _ F) o (st.2 p F o e)⟩,
   λi s' Q E hi st O=>Y.item i s' Q E hi st.1 λv h' tk hP ji hk=>O v h' tk hP ⟨ji,λp F o e=>hk p o (λz=>by let:=Vi p F;rw[iS.mp z] at this;exact nq _ this) (st.2 p F o e)⟩ hk,
   λs' Q E st O=>Y.done s' Q E st.1 O,λi s' Q E st O=>Y.self i s' Q E st.1 O⟩
 apply(_,_,_,_,_,_,_,λi j=>decide (mi (cs.D i (0,0))<mi (cs.D j (0,0))),Á,W.toS,⟨⟨⟨_,ia _ Á,Á,Á⟩,pl.isList.push _⟩,λp _ o e=>du _ e⟩,λb J=>?_,by rw[hsz];exact aL,?_,λv s' hP hm=>?_)
 .show b<(s.o _).O;rw[qw];rcases fu.mp J with J|J
  .simp only[a8,kZ,k7] at J;rcases J with J|J
   .rw[J];exact RA _
   .rw[J];exact Fl bO
  .exact Fl (Vi b J)
 .intro k i j u v s2 Q2 E2 st h1 h2 O;let(p,F,rfl):=iQ i u (À h1);let(p',oJ,rfl):=iQ j v (À h2);let U:cs[i]? =Α (cs[i]'(by let:=(bo.mp F).1;symm)):=cI _;let e2:cs[j]? =Α (cs[j]'(by let:=(bo.mp oJ).1;omega)):=cI _;let(o,Z,f1):=tup i p _ F U;let(o',ot,f2):=tup j p' _ oJ e2;let(js,t1,i1):=f1 s2.H (st.2 p (bj F) o Z);let(js',t2,i2):=f2 s2.H (st.2 p' (bj oJ) o' ot);apply HT.S6 (A:=X.A.in1) t1 t2 i1 i2 hu ?_;rw[ag5 (ht i p _ F U).2 (ht j p' _ oJ e2).2];dsimp only at O;rw[ij,ij,U,e2] at O;exact O
 .let(Vj,AI):=argBest_lt (λi=>mi (cs.D i (0,0))) (M.toArray.u-1);let(p,F,rfl):=iQ _ v (À hP);let dm:=(bo.mp F).1;let U:cs[argBest (λi j=>decide (mi (cs.D i (0,0))<mi (cs.D j (0,0)))) (M.toArray.u-1)]? =Α (cs[argBest (λi j=>decide (mi (cs.D i (0,0))<mi (cs.D j (0,0)))) (M.toArray.u-1)]' Å):=cI _;rw[Moved.eq_with hm];apply(.ref p,H,I.kept (t':=s'.toks) λb o e=>hm.H b o (λz=>?_) (du _ e),Á,q _ p _ F U λd hd=>?_)
  .let:=dh e;rw[iS.mp z] at this;exact nq _ this
  .let(j,hj,rfl):=nr hd;let:=AI j Î;rw[ij,ij,U,cI hj] at this;exact this
end L2
namespace L2
open PySem PySem.Spec PyProof.Rows
def AJ(i j:Int):Int:=if j>i then j else i
def ag8(hc:X.calm=true):k9 X (.builtin "max") (λxs H Q=>∃i j k,xs=[.int i,.int j,.int k]/\Q (.int (AJ (AJ i j) k)) H):=by
 intro pins s σ H xs W Q I r h;let(i,j,k,rfl,q):=h;cases r with
 |cons F r=>cases r with
  |cons J r=>cases r with
   |cons M r=>
    cases r;let(O,rfl):=F;let(t2,rfl):=J;let(U,rfl):=M;apply max_three_ints ă λh' tk kp=>⟨_,H,I.kept kp,?_,q⟩;ext AJ;by_cases z:j>i
    .rw[ah z,ah z];by_cases h2:k>j
     .rw[ah h2,ah h2];exact(_,Á)
     .rw[ag h2,ag h2];exact(_,Á)
    .rw[ag z,ag z];by_cases h2:k>i
     .rw[ah h2,ah h2];exact(_,Á)
     .rw[ag h2,ag h2];exact(_,Á)
end L2
namespace L2
open PySem PySem.Spec PyProof.Rows
open PySem.W (WData Codec OpenSpec Well WellAll ReadsW ReadsAllW)
mutual
inductive Dw(K:FR)(H:Hp):V->WData->Prop
 |aO:Dw K H .aO .none
 |bl (b:Bool):Dw K H (.bl b) (.bool b)
 |int (i:Int):Dw K H Ãm Ãm
 |str (x:Str):Dw K H Çy Çy
 |jJ (b:Array UInt8):Dw K H (.jJ b) (.bytes b.toList)
 |lst {a:Addr} {xs:ay} {ds:List WData}:ä a xs->nP K H xs ds->Dw K H ħ (.list ds)
 |tup {a:Addr} {xs:ay} {ds:List WData}:š a xs->nP K H xs ds->Dw K H ħ (.tuple ds)
inductive nP(K:FR)(H:Hp):ay->List WData->Prop
 |nil:nP K H [] []
 |cons {v:V} {vs:ay} {d:WData} {ds:List WData}:Dw K H v d->nP K H vs ds->nP K H (v::vs) (d::ds)
end
theorem Vk{K:FR}{H:Hp}:∀ns:LI,nP K H Ŭ (ns.M WData.int):=by
 intro ns;induction ns with
 |nil=>exact .nil
 |cons n r j=>
  exact .cons (.int n) j
theorem Lq{K:FR}{H:Hp}(ns:LI):∀(xs:ay),nP K H xs (ns.M WData.int)->xs=ns.M V.int:=by
 induction ns with
 |nil=>
  intro xs h;cases h;rfl
 |cons n r q=>
  intro xs h;cases h with
  |cons j h2=>
   cases j;rw[q _ h2] <;> rfl
section
variable{P:Pg}{w:Wd}{K:FR}{H:Hp}{h:Heap}{R:PySem.W.WRecords}{cl:Str->OA}
def ag9{a:Addr}{xs:ay}(aD:ķ h)(F:K.In h)(q:ä a xs):∃(j:LV)(o:Obj)(n:Nat),bp xs j/\h.I a=Α o/\o.cls=.type "list"/\o.data=.seq j.toArray n:=by
 rcases q with q|⟨o,j,n,e,hc,_,hd,_,z⟩
 .let(_,j,n,z,e):=(q.ok aD);symm
 .exact(j.toList,o,n,z,F _ _ e,hc,by simp[hd])
def aha{a:Addr}{xs:ay}(aD:ķ h)(F:K.In h)(q:š a xs):∃(j:LV)(o:Obj)(n:Nat),bp xs j/\h.I a=Α o/\o.cls=.type "tuple"/\o.data=.seq j.toArray n:=by
 rcases q with q|⟨o,j,n,e,hc,hd,_,z⟩
 .let(_,j,z,o,e,hc,n,hd):=(q.ok aD);symm
 .exact(j.toList,o,n,z,F _ _ e,hc,by simp[hd])
def Dw.reads(aD:ķ h)(J:K.In h)(d:WData)(v:V)(u:Value)(x:Dw K H v d):RelV v u->∃as,ReadsW R cl h u d as:=
 Dw.rec (motive_1:=λv d _=>∀u,RelV v u->∃as,ReadsW R cl h u d as) (motive_2:=λvs M _=>∀U,bp vs U->∃as,ReadsAllW R cl h U M as)
  (λu r=>by cases r;exact(_,ReadsW.none)) (λb u r=>by cases r;exact(_,ReadsW.bool b)) (λi u r=>by let(t,rfl):=r;exact(_,ReadsW.int i t)) (λx u r=>by let(t,rfl):=r;exact(_,ReadsW.str x t))
  (λb u r=>by let(t,rfl):=r;exact(_,ReadsW.bytes _ t))
  (λhs _ z u r=>by
   cases r;let(j,o,n,F,q,hc,hd):=ag9 aD J hs;let(as,hr):=z j F;exact(_,ReadsW.list q hc hd hr))
  (λhs _ z u r=>by
   cases r;let(j,o,n,F,q,hc,hd):=aha aD J hs;let(as,hr):=z j F;exact(_,ReadsW.tuple q hc hd hr))
  (λU r=>by cases r;exact(_,ReadsAllW.nil))
  (λ_ _ O W U r=>by
   cases r with
   |cons r1 r2=>
    let(as,Y):=O _ r1;let(bs,Z):=W _ r2;exact(_,ReadsAllW.cons Y Z)) x u
end
mutual
def sv:WData->Bool
 |.none=>true
 |.bool _=>true
 |.int _=>true
 |.str _=>true
 |.bytes _=>true
 |.list xs=>qQ xs
 |.tuple xs=>qQ xs
 |_=>false
def qQ:List WData->Bool
 |[]=>true
 |x::r=>sv x&&qQ r
end
theorem ahb{α:Type}{f:α->WData}(h:∀a,sv (f a)=true):∀l:List α,qQ (l.M f)=true:=by
 intro l;induction l with
 |nil=>exact Á
 |cons x r j=>
  show(sv (f x)&&qQ (r.M f))=true;rw[h x,j] <;> rfl
theorem xo:∀(c:Codec)(a:c.denote),sv (c.enc a)=true
 |.unit,_=>rfl
 |.bool,_=>rfl
 |.int _ _,_=>rfl
 |.nat _ _,_=>rfl
 |.u8,_=>rfl
 |.bytes _ _,_=>rfl
 |.text _ _ _ _,_=>rfl
 |.list _ _ c,a=>ahb (λx=>xo c x) a
 |.pair c d,a=>by
  show(sv (c.enc a.1)&&(sv (d.enc a.2)&&true))=true;rw[xo c a.1,xo d a.2] <;> rfl
 |.triple c d e,a=>by
  show(sv (c.enc a.1)&&(sv (d.enc a.2.1)&&(sv (e.enc a.2.2)&&true)))=true;rw[xo c a.1,xo d a.2.1,xo e a.2.2] <;> rfl
 |.option c,none=>rfl
 |.option c,some x=>xo c x
theorem ahc(cs:List Codec):∀(a:Codec.denoteAll cs),qQ (Codec.encAll cs a)=true:=by
 induction cs with
 |nil=>exact @λ_=>Á
 |cons c cs j=>
  intro a;show(sv (c.enc a.1)&&qQ (Codec.encAll cs a.2))=true;rw[xo c a.1,j a.2] <;> rfl
theorem Vl{xs:List WData}:∀{d:WData},d∈xs->d.weight<=WData.weightAll xs:=by
 induction xs with
 |nil=>exact @λd h=>absurd h Ä
 |cons x r j=>
  intro d h;show d.weight<=x.weight+1+WData.weightAll r;rcases a8.mp h with e|m
  .rw[e];lia
  .let z:=j m;lia
def toV:Value->V
 |.none=>.aO
 |.bool b=>.bl b
 |.int i _=>.int i
 |.str x _=>.str x
 |.bytes b _=>.jJ b
 |.ref a=>.ref a
 |_=>.aO
def ko(A:LA):Value->Prop
 |.none=>True
 |.bool _=>True
 |.int _ _=>True
 |.str _ _=>True
 |.bytes _ _=>True
 |.ref a=>a∈A
 |_=>False
theorem ko.mono{A B:LA}(h:∀a∈A,a∈B):∀{u:Value},ko A u->ko B u:=λ{u}x=>by
 cases u with
 |ref a=>exact h a x
 |none=>trivial
 |bool b=>trivial
 |int i t=>trivial
 |str s t=>trivial
 |bytes b t=>trivial
 |_=>exact False.elim x
theorem ahd{A:LA}{u:Value}(x:ko A u):RelV (toV u) u:=by
 cases u with
 |ref a=>rfl
 |none=>rfl
 |bool b=>rfl
 |int i t=>exact(t,Á)
 |str s t=>exact(t,Á)
 |bytes b t=>exact(t,Á)
 |_=>exact False.elim x
theorem Dv{A:LA}{vs:LV}:(∀u∈vs,ko A u)->bp ź vs:=by
 induction vs with
 |nil=>exact @λ_=>.nil
 |cons u r q=>
  intro h;exact .cons (ahd (h u (eO ..))) (q λx j=>h x (aK _ j))
def pU(h:Heap)(A:LA)(a:Addr):Prop:=∃vs:LV,vs.L<=sizeLine/\(∀u∈vs,ko A u)/\
 (h.I a=Α {cls:=.type "list",data:=.seq vs.toArray}\/h.I a=Α {cls:=.type "tuple",data:=.seq vs.toArray})
def pU.mono{h:Heap}{A B:LA}{a:Addr}(k:∀a∈A,a∈B)(x:pU h A a):pU h B a:=by
 let(vs,j,h2,q):=x;exact(vs,j,λu z=>(h2 u z).mono k,q)
theorem Lr{P:Params}{h:Heap}{vs:LV}:∀{j:List WData},WellAll P h vs j->vs.L=j.L:=by
 induction vs with
 |nil=>intro j h;cases h;rfl
 |cons v vs q=>
  intro j h;cases h with
  |cons _ b=>
   show _+1=_+1;rw[q b]
theorem Vm{P:Params}{h:Heap}{v:Value}{j:List WData}(x:Well P h v (.list j)):∃(a:Addr)(vs:LV),v=.ref a/\h.I a=Α {cls:=.type "list",data:=.seq vs.toArray}/\WellAll P h vs j:=by
 cases x with
 |list q J=>symm
theorem Vn{P:Params}{h:Heap}{v:Value}{j:List WData}(x:Well P h v (.tuple j)):∃(a:Addr)(vs:LV),v=.ref a/\h.I a=Α {cls:=.type "tuple",data:=.seq vs.toArray}/\WellAll P h vs j:=by
 cases x with
 |tuple q J=>symm
theorem Vo{P:Params}{h:Heap}{U:LV}{d:WData}{j:List WData}(x:WellAll P h U (d::j)):∃(v:Value)(vs:LV),U=v::vs/\Well P h v d/\WellAll P h vs j:=by
 cases x with
 |cons a b=>grind
def ahe{n:Nat}(h:n<=1048576):n<=sizeLine:=gn h Ñ
section
variable{P:Params}{h:Heap}
def Vp{M:WData->Prop}(n:M .none)(b:∀b,M (.bool b))(i:∀i,M Ãm)(s:∀s,M (.str s))(y:∀b,M (.bytes b))(l:∀xs,(∀d∈xs,M d)->M (.list xs))(t:∀xs,(∀d∈xs,M d)->M (.tuple xs)):∀j,qQ j=true->∀d∈j,M d:=
 WData.rec_1 (motive_1:=λd=>sv d=true->M d) (motive_2:=λj=>qQ j=true->∀d∈j,M d) (motive_3:=λ_=>True) (motive_4:=λ_=>True) (motive_5:=λ_=>True) (motive_6:=λ_=>True)
  (λ_=>n) (λx _=>b x) (λx _=>i x) (λx _=>s x) (λxs z p=>l xs (z p)) (λxs z p=>t xs (z p)) Àh (λ_ p=>Bool.noConfusion p) (λx _=>y x) (λ_ p=>Bool.noConfusion p) Àh Àh (λ_ _ _ p=>Bool.noConfusion p)
  (λ_ d m=>by cases m) (λx xs F J p d m=>by
   let q:=tw.mp p;cases m with
   |head=>exact F q.1
   |tail _ m=>exact J q.2 d m) trivial Ãz trivial Ãz Ãz (λ_ _ _=>trivial)
theorem Ls:∀j:List WData,(∀d∈j,∀v,Well P h v d->d.weight<=1048576->∃A:LA,ko A v/\∀a∈A,pU h A a)->∀vs:LV,WellAll P h vs j->(∀d∈j,d.weight<=1048576)->∃A:LA,(∀u∈vs,ko A u)/\∀a∈A,pU h A a:=by
 intro j;induction j with
 |nil=>
  intro _ vs x _;cases x;exact([],λu m=>absurd m Ä,λa m=>absurd m Ä)
 |cons d j Y=>
  intro one vs x z;let(v,vs,rfl,Z,x2):=Vo x;let(A,J,M):=one d eO v Z (z d eO);let(B,O,U):=Y (λe F=>one e (aK _ F)) vs x2 λe F=>z e (aK _ F);let kA:∀b∈A,b∈A++B:=λb q=>fu.mpr (.inl q);let kB:∀b∈B,b∈A++B:=λb q=>fu.mpr (.inr q);apply(A++B,λu W=>?_,λb q=>?_)
  .rcases a8.mp W with e|m
   .rw[e];exact J.mono kA
   .exact(O u m).mono kB
  .rcases fu.mp q with m|m
   .exact(M b m).mono kA
   .exact(U b m).mono kB
def ahf(j:List WData)(vs:LV)(x:WellAll P h vs j)(p:qQ j=true)(z:∀d∈j,d.weight<=1048576):∃A:LA,(∀u∈vs,ko A u)/\∀a∈A,pU h A a:=by
 let F:∀v,ko [] v->∃A:LA,ko A v/\∀a∈A,pU h A a:=λv o=>⟨[],o,λa m=>absurd m Ä⟩;let U:∀(a:Addr)(vs:LV)(j:List WData),vs.L=j.L->WData.weightAll j<=1048576->(h.I a=Α {cls:=.type "list",data:=.seq vs.toArray}\/h.I a=Α {cls:=.type "tuple",data:=.seq vs.toArray})->(∃A:LA,(∀u∈vs,ko A u)/\∀a∈A,pU h A a)->∃A:LA,ko A ħ/\∀a∈A,pU h A a:=by
  intro a vs j e z q h0;let(A,h1,h2):=h0;let k:∀b∈A,b∈a::A:=λb M=>aK _ M;apply(a::A,eO ..,λb M=>?_);rcases a8.mp M with Y|m
  .rw[Y];exact(vs,ahe (by rw[e];exact gn (PySem.W.length_le_weightAllW j) z),λu hu=>(h1 u hu).mono k,q)
  .exact(h2 b m).mono k
 apply Ls j (Vp (λv x _=>?_) Ãv Ãv Ãv Ãv (λxs O v x z=>?_) (λxs O v x z=>?_) j p) vs x z
 .cases x;exact F _ trivial
 .cases x;exact F _ trivial
 .cases x;exact F _ trivial
 .cases x;exact F _ trivial
 .cases x;exact F _ trivial
 .let(a,vs,rfl,q,J):=Vm x;let Z:=z;exact U a vs xs (Lr J) Z (.inl q) (Ls xs O vs J λd hd=>gn (Vl hd) Z)
 .let(a,vs,rfl,q,J):=Vn x;let Z:=z;exact U a vs xs (Lr J) Z (.inr q) (Ls xs O vs J λd hd=>gn (Vl hd) Z)
end
def GA(o:Obj):Option HO:=match o.data with
 |.seq vs _=>if (o.cls==Value.type "list")=true then some (.cO o (.lst (vs.toList.M toV))) else some (.cO o (.tup (vs.toList.M toV)))
 |_=>none
def jq(K:FR)(h:Heap)(A:LA):Hp:=λb=>if b∈A then (if (K.Q b).isNone=true then (h.I b).bind GA else none) else none
def Vq(vs:LV):GA {cls:=.type "list",data:=.seq vs.toArray}=Α (.cO {cls:=.type "list",data:=.seq vs.toArray} (.lst ź)):=by
 rfl
def Vr(vs:LV):GA {cls:=.type "tuple",data:=.seq vs.toArray}=Α (.cO {cls:=.type "tuple",data:=.seq vs.toArray} (.tup ź)):=by
 rfl
section
variable{P:Pg}{w:Wd}{K:FR}{h:Heap}{A:LA}
def GC{b:Addr}{o:Obj}(j:b∈A)(hk:K.Q b=Β)(e:h.I b=Α o):jq K h A b=GA o:=by
 ext jq;grind
def ahg{b:Addr}{u:HO}(q:jq K h A b=Α u):b∈A/\K.Q b=Β:=by
 delta jq at q;by_cases j:b∈A
 .rw[ah j] at q;cases hk:K.Q b with
  |none=>symm
  |some o=>
   symm
 .symm
def GG(z:∀a∈A,pU h A a){b:Addr}{u:HO}(q:jq K h A b=Α u):K.Q b=Β/\∃vs:LV,vs.L<=sizeLine/\(∀u∈vs,ko A u)/\
  ((h.I b=Α {cls:=.type "list",data:=.seq vs.toArray}/\u=.cO {cls:=.type "list",data:=.seq vs.toArray} (.lst ź))\/
   (h.I b=Α {cls:=.type "tuple",data:=.seq vs.toArray}/\u=.cO {cls:=.type "tuple",data:=.seq vs.toArray} (.tup ź))):=by
 let(j,hk):=ahg q;let(vs,F,h2,J):=z b j;apply(hk,vs,F,h2,?_);rcases J with e|e
 .rw[GC j hk e,Vq] at q;exact .inl ⟨e,(aQ q).symm⟩
 .rw[GC j hk e,Vr] at q;exact .inr ⟨e,(aQ q).symm⟩
def ahh(z:K.In h)(F:∀a∈A,pU h A a){a:Addr}{vs:LV}(q:a∈A)(e:h.I a=Α {cls:=.type "list",data:=.seq vs.toArray}):(∀u∈vs,ko A u)/\aa K (jq K h A) a ź:=by
 let(U,M,h2,O):=F a q;let J:U=vs:=by
  symm
 subst J;apply(h2,?_);cases hk:K.Q a with
 |none=>exact .inl (.inr ⟨_,by rw[GC q hk e,Vq]⟩)
 |some o=>
  let j:=z a o hk;rw[e] at j;obtain rfl:=aQ j;exact .inr ⟨_,U.toArray,_,hk,Á,Á,Á,by assumption,by simpa using Dv h2⟩
def ahi(z:K.In h)(F:∀a∈A,pU h A a){a:Addr}{vs:LV}(q:a∈A)(e:h.I a=Α {cls:=.type "tuple",data:=.seq vs.toArray}):(∀u∈vs,ko A u)/\bw K (jq K h A) a ź:=by
 let(U,M,h2,O):=F a q;let J:U=vs:=by
  symm
 subst J;apply(h2,?_);cases hk:K.Q a with
 |none=>exact .inl (.inr ⟨_,by rw[GC q hk e,Vr]⟩)
 |some o=>
  let j:=z a o hk;rw[e] at j;obtain rfl:=aQ j;exact .inr ⟨_,U.toArray,_,hk,Á,Á,by assumption,by simpa using Dv h2⟩
theorem Lu{q:Params}{B:Hp}:∀j:List WData,(∀d∈j,∀v,Well q h v d->ko A v->Dw K B (toV v) d)->∀vs:LV,WellAll q h vs j->(∀u∈vs,ko A u)->nP K B ź j:=by
 intro j;induction j with
 |nil=>
  intro _ vs x _;cases x;exact .nil
 |cons d j J=>
  intro one vs x z;let(v,vs,rfl,M,O):=Vo x;exact .cons (one d eO v M (z _ eO)) (J (λe F=>one e (aK _ F)) vs O λu m=>z u (aK _ m))
def ahj{W:Params}(O:K.In h)(U:∀a∈A,pU h A a)(j:List WData)(vs:LV)(x:WellAll W h vs j)(p:qQ j=true)(q:∀u∈vs,ko A u):nP K (jq K h A) ź j:=by
 apply Lu j (Vp (λv x _=>?_) (λb v x _=>?_) (λi v x _=>?_) (λs v x _=>?_) (λb v x _=>?_) (λxs J v x q=>?_) (λxs J v x q=>?_) j p) vs x q
 .cases x;exact .aO
 .cases x;exact .bl b
 .cases x;exact .int i
 .cases x;exact .str s
 .cases x;let z:=Dw.jJ (K:=K) (H:=jq K h A) b.toArray;exact z
 .let(a,vs,rfl,F,M):=Vm x;let(h2,hs):=ahh O U q F;exact .lst hs (Lu xs J _ M h2)
 .let(a,vs,rfl,F,M):=Vn x;let(h2,hs):=ahi O U q F;exact .tup hs (Lu xs J _ M h2)
end
def ahk{j:List WData}(h:WData.layableAll j=true):∀d∈j,d.weight<=1048576:=λd hd=>
 (PySem.W.layableW_iff.mp (jH.mp h d hd)).2.2
theorem ahl(cs:List Codec):∀(a:Codec.denoteAll cs),(Codec.encAll cs a).L=cs.L:=by
 induction cs with
 |nil=>exact @λ_=>Á
 |cons c cs j=>
  intro a;show(Codec.encAll cs a.2).L+1=cs.L+1;rw[j a.2]
section
variable{K:FR}{H H':Hp}
def ahm(s:ai H H')(h:š a xs):bw K H' a xs:=by
 rcases h with (h|⟨o,h⟩)|h
 .exact .inl (.inl (s _ _ h))
 .exact .inl (.inr ⟨o,s _ _ h⟩)
 .exact .inr h
def ahn(s:ai H H')(j:List WData)(vs:ay)(x:nP K H vs j):nP K H' vs j:=
 nP.rec (motive_1:=λv d _=>Dw K H' v d) (motive_2:=λvs j _=>nP K H' vs j) .aO .bl .int .str .jJ (λh _ r=>.lst (s.seq h) r) (λh _ r=>.tup (ahm s h) r) .nil (λ_ _ h r=>.cons h r) x
end
def aho{P:Pg}{w:Wd}{K:FR}{mg mb:MG}{CX:ox}{k:Nat}{fa:Addr}{fd:FD}{ps:LS}{sp:Sp}{s₁:Sh}{U:LV}{J:List WData}{R:PySem.W.WRecords}{cl:Str->OA}{d0:WData}{c T:Addr}(KX:K.In s₁.H) (vh:s₁.H.Ns mainGlobals mg) (M:s₁.H.Ns builtinsNs mb) (hbb:∀x:Str,x≠"__name__"->mb x=bootBuiltins x) (ahq:s₁.H.NoLimit) (hg:s₁.gens= #[])(Dx:WellAll w.params s₁.H U J) (dY:qQ J=true) (hwt:∀d∈J,d.weight<=1048576) (hr:eS k callerA) (hT:s₁.H.TableAt c T #[]) (Vs:K.Q T=Β) (xp:Ds mg s₁.H)(F:∀base:Heap,K.In base->base.Ns mainGlobals mg->Ds mg base->Ģ CX k fa fd ps sp) (ahs:∀(s:Sh)(us:LV),us.L=ps.L->BindsTo s fd ⟨us,[]⟩ Às) (bZ:J.L=ps.L)(mY:∀(H:Hp)(xs:ay),H T=Α (.j5 #[])->nP K H xs J->sp xs H (λv H'=>Dw K H' v d0) λ_ _ _=>False)(Lv:∀H e s',CX [] H s₁ (λ_ _ _=>False) e s'->False):
  codeAny Âe callerA (.call (.ref fa) ⟨U,[]⟩) (λr s'=>∃u as,r=.ok (.ret u)/\ReadsW R cl s'.H u d0 as/\OldK s₁.H s'.H/\s'.os=s₁.os/\AllBare s'.gens) s₁:=by
 let(A,ho,O):=ahf J U Dx dY hwt;let Lw:s₁.U T=Α {cls:=.none,data:=.fields #[]}:=hT.2;let Cz:∀{b:Addr}{o:Obj},s₁.U b=Α o->(∀vs n,o.data≠ .seq vs n)->ī A b=Β:=λ{b o}e d=>by
  cases q:ī A b with
  |none=>rfl
  |some u=>
   obtain⟨_,vs,_,_,⟨e2,_⟩|⟨e2,_⟩⟩:=GG O q
   .grind
   .grind
 let aT:=Cz Lw λvs n z=>by cases z
 let sm:ai (ī A) (upd (ī A) T (.j5 #[])):=λb o e=>by
  rw[az (eQ e aT)];exact e
 let hS:=ahn sm _ _ (ahj KX O J U Dx dY ho);let hV:=Dv ho;let Y:upd (ī A) T (.j5 #[]) T=Α (.j5 #[]):=aq;let hN:∀b,b≠T->upd (ī A) T (.j5 #[]) b=jq K s₁.H A b:=λb M=>az M;let hO:∀b u,b≠T->upd (ī A) T (.j5 #[]) b=Α u->∃o u',u=.cO o u':=λb u M e=>by
  rw[hN b M] at e;obtain⟨_,vs,_,_,⟨_,e⟩|⟨_,e⟩⟩:=GG O e
  .symm
  .symm
 let aD:fb P w (upd (ī A) T (.j5 #[])) s₁.H:=λb u q=>by
  by_cases j:b=T
  .subst j;rw[Y] at q;cases q;exact Lw
  .rw[hN b j] at q;obtain⟨_,vs,h1,h2,⟨e,rfl⟩|⟨e,rfl⟩⟩:=GG O q
   .exact(e,by simp_all,vs,_,Dv h2,e)
   .exact(e,by simp_all,vs,Dv h2,_,e,rfl,_,rfl)
 let hK:∀b u,upd (ī A) T (.j5 #[]) b=Α u->K.Q b=Β:=λb u q=>by
  by_cases j:b=T
  .grind
  .rw[hN b j] at q;exact(GG O q).1
 let Ly:∀{b:Addr}{o:Obj},s₁.U b=Α o->(∀vs n,o.data≠ .seq vs n)->(∀vs,o.data≠ .fields vs)->upd (ī A) T (.j5 #[]) b=Β:=λ{b o}e d1 d2=>by
  grind
 generalize upd (ī A) T (.j5 #[])=H at hS Y hO aD hK Ly;let Lz:∀{b:Addr}{o:Obj},s₁.U b=Α o->H b=Β->(vm s₁.H H).I b=Α o:=λe n=>acD e n;let Z:∀{b:Addr}{m:MG},s₁.H.Ns b m->(vm s₁.H H).Ns b m:=λ{b m} ⟨o,es,ep,e,d,r⟩=>⟨o,es,ep,Lz e (Ly e (λvs n z=>by simp_all) λvs z=>by simp_all),d,r⟩;let nK:∀b o,K.Q b=Α o->H b=Β:=λb o e=>by
  cases q:H b with
  |none=>rfl
  |some u=>
   grind
 let Vt:=λb o e=>Lz (KX b o e) (nK b o e);let hM:Mod K mg Æx:=⟨Vt,Z vh,⟨mb,Z M,hbb⟩,let ⟨mc,h1,h2⟩:=ahq;⟨mc,Z h1,h2⟩⟩;let hBm:Ds mg Æx:=by
  let(bm,ob,b1,b2,b3,b4,b5,b6):=xp;exact(bm,ob,b1,b2,Lz b3 (Ly b3 (λvs n z=>by simp_all) λvs z=>by simp_all),b4,b5,b6)
 let e0:yB P w K mg Æx callerA [] s₁ H:=⟨rfl,hM,λb o e=>acE e,Fe (acC _ _),trivial,λb M=>absurd (show b∈([]:LA) from M) Ä,aD,.of_eq hg⟩;let hl:U.L=ps.L:=by rw[Lr Dx];exact bZ
 apply yf ((F _ Vt (Z vh) hBm).run callerA [] s₁ H ⟨U,[]⟩ U (U.M toV) _ _ hr e0 (ahs s₁ U hl) hV (mY H _ Y hS)) λr s' x=>?_;cases r with
 |error e=>exact(Lv H e s' x).elim
 |ok fl=>
  cases fl with
  |next=>exact False.elim x
  |brk=>exact False.elim x
  |cont=>exact False.elim x
  |ret u=>
   let(v,H',os,bare,un,LB,r',q):=x;let kept:=λb o j e=>by
    cases q2:H b with
    |none=>exact un.keep b o e q2 (by intro z;exact absurd (show b∈([]:LA) from z) Ä) Ä
    |some u2=>
     let(ob,u3,rfl):=hO b u2 j q2;let z2:=un.rO b ob _ q2;let(e1,_):=aD b _ q2;let(e2,_):=LB b _ z2;symm
   let KX':=λb o e=>kept b o (λz=>by simp_all) (KX b o e);let(as,nQ):=Dw.reads (R:=R) (cl:=cl) LB KX' d0 v u q r';let(my,e1):=un.vk T #[] Y;let e2:s'.U T=Α {cls:=.none,data:=.fields (#[]++my)}:=LB T _ e1;apply(u,as,Á,nQ,⟨λb o e=>?_,λb o e=>?_⟩,os,bare)
   .by_cases j:b=T
    .subst j;rw[Lw] at e;cases e;exact .inr (.inl ⟨hT.isCodeTable,Á,#[],my,Á,e2⟩)
    .exact .inl (kept b o j e)
   .grind
def ahv{r:OpenSpec}{k:Nat}{q:Pg}{loose:LS}{XP:MG->Heap->Prop}{YP:Wd->Heap->Prop}{d:DefRec}{K:Params->FR}{CX:ox}{ps:LS}{sp:FR->Addr->Sp}(M:r.wellSaid=true) (LC:d.params.defaults=[]) (bZ:r.args.L=ps.L) (hr:eS k callerA)(hY:∀(w:Wd)(h:Heap),YP w h->(K w.params).In h) (O:((recsOf q).any λd'=>d'.name==d.name)=true)(F:∀(w:Wd)(mg:MG)(j:Addr)(h:Heap),YP w h->(K w.params).In h->h.Ns mainGlobals mg->mg d.name=Α (.ref j)->
   ∃(fd:FD)(o:Obj)(c T:Addr),(K w.params).Q j=Α o/\o.data=.func fd/\fd.code=.ref c/\Lo Çu c T/\(K w.params).Q T=Β/\(∀(s:Sh)(us:LV),us.L=ps.L->BindsTo s fd ⟨us,[]⟩ Às)/\
    ∀base:Heap,(K w.params).In base->base.Ns mainGlobals mg->Ds mg base->aZ r.prog w Çu mg base CX k j fd ps (sp Çu T))
  (mY:∀(K:FR)(T:Addr)(H:Hp)(xs:ay)(a:Codec.denoteAll r.args),H T=Α (.j5 #[])->Codec.withinAll r.args a=true->Codec.app r.args r.asked a=true->nP K H xs (Codec.encAll r.args a)->
   sp K T xs H (λv H'=>Dw K H' v (r.ret.enc (Codec.app r.args r.f a))) λ_ _ _=>False)
  (Lv:∀(H:Hp)(s:Sh)(e:Value)(s':Sh),CX [] H s (λ_ _ _=>False) e s'->False):
  PySem.W.WalkOS q loose XP YP r d [] (λf vs=>PySem.call f vs):=by
 intro w jK s₁ mg mb G Y j o pm cd jB dV kV ho hd ny hD GJ hg args uX as Vu U nQ Dx hlo;let(a,e1,e2):=PySem.W.os_pre_some Vu;let(e3,vz):=Codec.encAll_of_decAll r.args args a e1;subst e3;let J:=hY w _ Y;let(fd,o',c,T,k1,k2,k3,hC,Vs,hb,hF):=F w mg j _ Y J G.T.g GJ;let(d',j6,hn):=tu.mp O;let hn:=zS.mp hn;let(a',o2,fd',c',P',t1,t2,t3,t4,t5,t6):=G.T.tab d' j6;rw[hn,GJ] at t1;cases t1;rw[J _ _ k1] at t2;cases t2;rw[k2] at t3;cases t3;rw[k3] at t4;cases t4;let hPT:P'=T:=by
  let((ob,vs,f1,f2,f3,f4),_):=t6;let(ob2,vs2,_,_,_,_,_,_,_,g1,g2,g3,g4,_):=hC _ J;symm
 subst hPT;refine PySem.W.enter_call (yf (aho (R:=[]) (cl:=classAt jK.H) (d0:=r.ret.enc (Codec.app r.args r.f a)) J G.T.g G.T.b G.T.builtins G.T.nolimit hg Dx (ahc _ _) (ahk U) hr t6 Vs G.T.bmain hF hb (by rw[ahl];exact bZ)
  (λH xs hO hS=>mY Çu P' H xs a hO vz e2 hS) λH e s'=>Lv H s₁ e s') λr' s' hq=>?_)
 let(u,Z,rfl,h1,h2,h3,h4):=hq;exact(.inl ⟨u,_,Z,Á,λ_=>Á,h1,(OpenSpec.post_iff M vz _ _).mpr Á,λz=>Bool.noConfusion z⟩,h2,h3,h4)
def ahB{K:FR}{c T:Addr}{od:OA}{sl:AO}{W Y Z v3 v4 v5 v6 v8 yQ j q F J M:Value}{fl U:Int}{O tt:Tok}{b:Bool}{x:Str}{ts:Tok}(l:K.Q c=Α ⟨.type "code",od,.fields #[W,Y,Z,v3,v4,v5,v6,.int fl O,v8,.bool b,.int U tt,.ref T,yQ,j,q,F,J,M,.str x ts],sl⟩) (ne:(c==T)=false):Lo K c T:=λh X=>
 ⟨_,_,_,_,_,_,_,_,_,X _ _ l,rfl,rfl,rfl,rfl,rfl,rfl,rfl,rfl,λz=>by rw[z] at ne;simp at ne⟩
end L2
namespace JM
open Flags
def aN(m:Int):LI->dJ
 |[]=>[[]]
 |x::r=>if x=m then []::aN m r else match aN m r with
  |[]=>[[x]]
  |w::l=>(x::w)::l
def xq(m:Int)(ps:dJ)(x:Int):dJ:=
 if x=m then ps++[[]] else ps.dropLast++[ps.getLastD []++[x]]
theorem m5(m:Int):∀l,aN m l≠[]:=by
 intro l;induction l with
 |nil=>
  simp[aN]
 |cons x r j=>
  ext aN;split
  .simp
  .split <;> simp
def LK(m x:Int)(w:LI)(l:dJ)(h:l≠[]):xq m (w::l) x=w::xq m l x:=by
 ext xq;split
 .rfl
 .cases l with
  |nil=>symm
  |cons a l=>rfl
theorem ahC(m x:Int):∀l,aN m (l++[x])=xq m (aN m l) x:=by
 intro l;induction l with
 |nil=>
  by_cases h:x=m <;> simp[aN,xq,h]
 |cons y r j=>
  let j:=j;let q:=m5 m r;show aN m (y::(r++[x]))=_;ext aN;split
  .rw[j,LK _ _ _ _ q]
  .rw[j];cases e:aN m r with
   |nil=>exact absurd e q
   |cons w l=>
    cases l with
    |nil=>by_cases z:x=m <;> simp[xq,z]
    |cons a l=>
     rw[LK m x w (a::l) Ä];rw[LK m x (y::w) (a::l) Ä]
def mj:LI:=[48,49,50,51,52,53,54,55,56,57,97,98,99,100,101,102]
def qR:LI:=mj++[63]
def kq:LI:=[115,101,101,110]
def vK:dJ:=[[102,114,111,110,116],[98,101,104,105,110,100],[117,110,107,110,111,119,110]]
def iI:dJ:=[[104,111,105,115,116],[104,111,105,115,116,32,97,98,111,118,101],[104,111,105,115,116,32,98,101,108,111,119],[104,111,105,115,116,32,97,98,111,118,101,32,98,101,108,111,119]]
def iJ:dJ:=[[115,113,117,97,114,101],[116,97,105,108,115],[108,111,110,103],[115,104,97,112,101,63]]
def B(n:Int):UInt8:=UInt8.ofNat n.toNat
def bq(l:LI):Prop:=∀x∈l,0<=x/\x<=255
def LL(h:0<=x/\x<=255):(B x).toNat=x.toNat:=by
 ext B;rw[UInt8.toNat_ofNat'];lia
def Vv(j:0<=x/\x<=255)(q:0<=y/\y<=255)(e:B x=B y):x=y:=by
 let:=b9 UInt8.toNat e;rw[LL j,LL q] at this;grind
theorem xt:∀{a b:LI},bq a->bq b->a.M B=b.M B->a=b
 |[],[],_,_,_=>rfl
 |[],_::_,_,_,e=>by simp at e
 |_::_,[],_,_,e=>by simp at e
 |x::a,y::b,ha,hb,e=>by
  simp only[a7,List.cons.injEq] at e;rw[Vv (ha x eO) (hb y eO) e.1,xt (λz hz=>ha z (aK _ hz)) (λz hz=>hb z (aK _ hz)) e.2]
theorem yR(m:Int)(F:0<=m/\m<=255):∀l,bq l->cutAt (B m) Ľ=(aN m l).M ë:=by
 intro l;induction l with
 |nil=>exact @λ_=>Á
 |cons x r j=>
  intro h;let J:=h x eO;let j:=j λz hz=>h z (aK _ hz);show(if B x=B m then []::cutAt (B m) (r.M B) else match cutAt (B m) (r.M B) with
   |[]=>[[B x]]
   |w::l=>(B x::w)::l)=(aN m (x::r)).M ë
  ext aN;by_cases e:x=m
  .rw[ah e,ah (by rw[e]),j];rfl
  .rw[ag e,ag λq=>e (Vv J F q),j];cases aN m r with
   |nil=>rfl
   |cons w l=>rfl
theorem qS(m:Int):∀{l},bq l->∀w∈aN m l,bq w:=by
 intro l;induction l with
 |nil=>
  intro _ w j;simp[aN] at j;subst j;intro z hz;cases hz
 |cons x r q=>
  intro h w j;let q:=q λz hz=>h z (aK _ hz);delta aN at j;split at j
  .rcases a8.mp j with rfl|j
   .intro z hz;cases hz
   .exact q w j
  .cases e:aN m r with
   |nil=>exact absurd e (m5 m r)
   |cons a l=>
    rw[e] at j q;rcases a8.mp j with rfl|j
    .intro z hz;rcases a8.mp hz with rfl|hz
     .exact h _ eO
     .exact q a eO z hz
    .exact q w (aK _ j)
theorem ahD(m:Int){l:LI}:m∉l->aN m l=[l]:=by
 induction l with
 |nil=>exact @λ_=>Á
 |cons x r z=>
  intro h;let j:¬x=m:=λe=>h (by rw[e];exact eO);let h2:=z λq=>h (aK _ q);ext aN;rw[ag j,h2]
theorem Vw(m:Int)(r:LI){l:LI}:m∉l->aN m (l++m::r)=l::aN m r:=by
 induction l with
 |nil=>
  intro _;show aN m (m::r)=_;ext aN;rw[ah rfl];split <;> rfl
 |cons x l z=>
  intro h;let j:¬x=m:=λe=>h (by rw[e];exact eO);let h2:=z λq=>h (aK _ q);show(if x=m then []::aN m (l++m::r) else match aN m (l++m::r) with
   |[]=>[[x]]
   |w::l=>(x::w)::l)=_
  rw[ag j,h2]
def glue(m:Int):dJ->LI
 |[]=>[]
 |[w]=>w
 |w::r=>w++m::glue m r
theorem ahE(m:Int)(w:LI)(h:r≠[]):glue m (w::r)=w++m::glue m r:=by
 cases r with
 |nil=>symm
 |cons a r=>rfl
theorem ahF(m:Int):∀l,glue m (aN m l)=l:=by
 intro l;induction l with
 |nil=>exact Á
 |cons x r j=>
  let j:=j;let q:=m5 m r;ext aN;split
  .rename_i e;rw[ahE m [] q,j,e];rfl
  .cases e:aN m r with
   |nil=>exact absurd e q
   |cons w l=>
    rw[e] at j;cases l with
    |nil=>
     show x::w=x::r;rw[show w=r from j]
    |cons a l=>
     rw[<-j];rfl
def xu(c:LI):Bool:=c.L==16&&c.all mj.Y
def GO(h:l.all (λx=>decide (0<=x)&&decide (x<=255))=true):bq l:=λx j=>by
 symm
def ahG(h:0<=x/\x<=255):(hexValue (B x)).isSome=mj.Y x:=by
 let e:=(by decide+kernel:∀n<256,(hexValue (B (n:Nat))).isSome=mj.Y ((n:Nat):Int)) x.toNat Î
 rwa [Int.toNat_of_nonneg h.1] at e
theorem mapM_some(f:α->Option β):∀l:List α,(l.mapM f).isSome=l.all (λx=>(f x).isSome):=by
 intro l;induction l with
 |nil=>exact Á
 |cons x r j=>
  let j:=j;rw[JN,tq,<-j];cases f x with
  |none=>rfl
  |some y=>
   cases r.mapM f with
   |none=>rfl
   |some z=>rfl
def LM(h:bq l)(e:∀x,0<=x/\x<=255->f x=g x):l.all f=l.all g:=by
 rw[qx,jH,jH];exact(λq x j=>by rw[<-e x (h x j)];exact q x j,λq x j=>by rw[e x (h x j)];exact q x j)
def Vx(h:bq c):(lookIn Æp).isSome=xu c:=by
 ext lookIn xu;rw[ak];by_cases e:c.L=16
 .rw[ag (λq=>q e),Fm,mapM_some,rH];rw[show c.all ((λx=>(hexValue x).isSome)∘B)=c.all mj.Y from LM h (λx j=>ahG j),e];rfl
 .symm
def preOf(b:LI):LI:=kq++32::(b++[32])
def ahH{b:LI}(h:bq b):bq (preOf b):=λx j=>by
 delta preOf at j;rcases fu.mp j with q|q
 .exact GO (l:=kq) Ñ x q
 .rcases a8.mp q with q|q
  .subst q;decide
  .rcases fu.mp q with q|q
   .exact h x q
   .let:x=32:=by simpa using q
    subst this;decide
def ahI(q:bq w)(Y:bq b):
  ((ascii "seen"++32::(b.M B++[32])).isPrefixOf Ĳ &&(lookIn ((w.M B).drop (6+(b.M B).L))).isSome)=true↔ ∃c,w=kq++32::(b++32::c)/\xu c=true:=by
 let M:ascii "seen"++32::(b.M B++[32])=(preOf b).M B:=by
  ext preOf;rw[bH,a7,bH];rfl
 let el:(preOf b).L=6+b.L:=by
  ext preOf;rw[j4,dg,j4];show 4+(b.L+1+1)=_;lia
 rw[M,jG,List.isPrefixOf_iff_prefix,ak,<-RR];constructor
 .rintro⟨⟨t,Z⟩,F⟩;let hd:bq (w.drop (6+b.L)):=λx j=>q x (abi j);rw[Vx hd] at F;apply(w.drop (6+b.L),?_,F);let W:(w.take (6+b.L)).M B=(preOf b).M B:=by
   let:=b9 (List.take (6+b.L)) Z;rw[<-abj] at this;grind
  let h2:=xt (λx j=>q x (zX j)) (ahH Y) W;let z:=RS (6+b.L) w;rw[h2] at z;apply z.symm.R ?_;ext preOf;simp
 .rintro⟨c,rfl,hc⟩;let O:kq++32::(b++32::c)=preOf b++c:=by
   ext preOf;simp
  rw[O] at q⊢;let J:=λx j=>q x (rG _ j);let U:(preOf b++c).drop (6+b.L)=c:=by
   symm
  rw[U,Vx J];symm
def eI(s:Nat):LI:=vK.D s []
def Vy:∀s∈[0,1,2],sideWord s=(eI s).M B/\bq (eI s)/\vK.Y (eI s)=true:=by
 intro s hs;let:s=0\/s=1\/s=2:=À hs
 rcases this with rfl|rfl|rfl <;> exact(by decide,GO Ñ,by decide)
def pS(l:Bytes)(s:Nat):Bool:=(ascii "seen"++32::(sideWord s++[32])).isPrefixOf l&&(lookIn (l.drop (6+(sideWord s).L))).isSome
def Vz(q:bq w)(hs:s∈[0,1,2]):pS Ĳ s=true↔ ∃c,w=kq++32::(eI s++32::c)/\xu c=true:=by
 let(e,j,_):=Vy s hs;ext pS;rw[e];exact ahI q j
def VA{w:LI}(z:bq w){l:dJ}(q:∀x∈l,bq x):w.M B∈l.M ë↔w∈l:=by
 rw[bG];constructor
 .rintro⟨x,j,e⟩;rw[<-xt (q x j) z e];exact j
 .grind
def fH(l:Bytes):Option (Bool×Bool):=[(false,false),(true,false),(false,true),(true,true)].find? λ(x:Bool×Bool)=>(Glimpse.lines ⟨x.1,x.2,[]⟩).head?==Α l
def fF(l:Bytes):Option Nat:=[0,1,2,3].find? λ(s:Nat)=>shapeSeen s==l
def VB(l:dJ)(h:l.all (λw=>w.all (λx=>decide (0<=x)&&decide (x<=255)))=true):∀x∈l,bq x:=λx j=>GO (jH.mp h x j)
def ahJ{w:LI}(z:bq w):(fH Ĳ).isSome=iI.Y w:=by
 let e:iI.M ë=[(false,false),(true,false),(false,true),(true,true)].M (λ(x:Bool×Bool)=>((Glimpse.lines ⟨x.1,x.2,[]⟩).head?).D []):=by decide
 let q:∀x∈[(false,false),(true,false),(false,true),(true,true)],(Glimpse.lines ⟨x.1,x.2,[]⟩).head?=Α (((Glimpse.lines ⟨x.1,x.2,[]⟩).head?).D []):=by decide
 rw[qx];ext fH;rw[List.find?_isSome];rw[show(iI.Y w=true↔w∈iI) from by simp,<-VA z (VB iI Ñ),e,bG];constructor
 .rintro⟨x,j,h⟩;apply(x,j,?_);rw[eq_of_beq h];rfl
 .rintro⟨x,j,h⟩;apply(x,j,?_);rw[q x j,h];exact abl _
def ahK{w:LI}(j:bq w):(fF Ĳ).isSome=iJ.Y w:=by
 let e:iJ.M ë=[0,1,2,3].M shapeSeen:=by decide
 rw[qx];ext fF;rw[List.find?_isSome];rw[show(iJ.Y w=true↔w∈iJ) from by simp,<-VA j (VB iJ Ñ),e,bG];simp
def ahL(l:Bytes):plateLine l=match [0,1,2].find? (pS l) with
  |some s=>(lookIn (l.drop (6+(sideWord s).L))).M λ(x:Nat)=>.seen s x
  |none=>match fH l with
   |some x=>some (.hoist x.1 x.2)
   |none=>match fF l with
    |some s=>some (.flag s)
    |none=>if l.L=4 then (l.mapM cellIn).M .cells else none:=rfl
def LP{p:LI}(h:bq p):PlateNeutral.text? p=Α Áq:=by
 ext PlateNeutral.text?;rw[ah ?_]
 .rfl
 .ext NeutralIO.bytes;rw[jH];intro x j;let:=h x j;symm
end JM
namespace HD
open PySem PySem.Spec PyProof.Rows L2
abbrev LQ:Stmt:=top 6
abbrev LR:Stmt:=top 7
abbrev LU:Stmt:=top 15
abbrev LW:Stmt:=top 16
abbrev LX:Stmt:=top 17
abbrev LY:Stmt:=top 18
abbrev LZ:Stmt:=top 19
abbrev L6:Stmt:=top 20
abbrev L7:Stmt:=top 21
abbrev L9:Stmt:=top 22
abbrev ahM:Stmt:=inClass (top 33) 0
abbrev ahN:Stmt:=inClass (top 34) 0
abbrev Ma:Stmt:=top 35
abbrev Mb:Stmt:=top 36
abbrev Mc:Stmt:=top 37
abbrev Md:Stmt:=top 38
abbrev Me:Stmt:=top 39
abbrev Mf:Stmt:=top 41
abbrev Mg:Stmt:=top 42
abbrev Mh:Stmt:=top 43
abbrev Mi:Stmt:=inClass (top 60) 0
abbrev ahO:Stmt:=inClass (top 61) 0
abbrev ahP:Stmt:=inClass (top 62) 0
abbrev ahQ:Stmt:=inClass (top 63) 0
abbrev Mj:Stmt:=top 64
abbrev Ml:Stmt:=top 65
abbrev Mm:Stmt:=top 66
abbrev Mn:Stmt:=top 67
abbrev Mo:Stmt:=top 68
abbrev Mp:Stmt:=top 69
abbrev Mq:Stmt:=top 70
abbrev Mr:Stmt:=top 71
abbrev Ms:Stmt:=top 72
abbrev Mt:Stmt:=top 74
abbrev ahR:Stmt:=inClass (top 75) 0
abbrev Mu:Stmt:=top 76
abbrev Mv:Stmt:=top 77
abbrev Mw:Stmt:=top 78
abbrev Mx:Stmt:=top 79
abbrev My:Stmt:=top 80
abbrev Mz:Stmt:=top 81
abbrev MA:Stmt:=top 82
abbrev ahS:Stmt:=inClass (top 90) 0
abbrev MB:Stmt:=top 91
abbrev MC:Stmt:=top 92
abbrev MD:Stmt:=top 93
abbrev ME:Stmt:=top 94
abbrev MF:Stmt:=top 95
abbrev MH:Stmt:=top 96
abbrev MI:Stmt:=top 97
abbrev MJ:Stmt:=top 98
abbrev MK:Stmt:=top 99
abbrev ahT:Stmt:=inClass (top 101) 0
abbrev ML:Stmt:=top 102
abbrev MM:Stmt:=top 103
abbrev MN:Stmt:=top 104
abbrev MO:Stmt:=top 105
abbrev MP:Stmt:=top 106
abbrev MQ:Stmt:=top 107
abbrev MR:Stmt:=top 108
abbrev MS:Stmt:=top 109
abbrev MT:Stmt:=top 110
abbrev MU:Stmt:=top 111
abbrev MV:Stmt:=top 112
abbrev ahU:Stmt:=inClass (top 120) 0
abbrev ahV:Stmt:=inClass (top 121) 0
abbrev MW:Stmt:=top 122
abbrev MX:Stmt:=top 123
abbrev MY:Stmt:=top 124
abbrev MZ:Stmt:=top 125
abbrev M0:Stmt:=top 126
abbrev M3:Stmt:=top 127
abbrev M4:Stmt:=top 129
abbrev ahW:Stmt:=inClass (top 133) 0
abbrev M5:Stmt:=top 134
abbrev M6:Stmt:=top 135
abbrev M7:Stmt:=top 136
abbrev M8:Stmt:=top 137
abbrev M9:Stmt:=top 138
abbrev ahX:Stmt:=inClass (top 140) 0
abbrev AK:Stmt:=top 141
abbrev Na:Stmt:=top 142
abbrev Nb:Stmt:=top 143
abbrev Nc:Stmt:=top 144
abbrev ahY:Str:="are_in_order_lockers"
end HD
namespace HD
open PySem PySem.Spec PyProof.Rows L2
open PySem.W (Codec)
def m6(H H':Hp)(p:Addr)(o:HO):Prop:=ai H H'/\H p=Β/\H' p=Α o
def aG{H:Hp}{p:Addr}{o:HO}(h:H p=Β):ai H (upd H p o):=λb u e=>by rw[az (eQ e h)];exact e
def fc{H H1:Hp}{p:Addr}{o:HO}(s:ai H H1)(h:H p=Β):ai H (upd H1 p o):=λb u e=>by rw[az (eQ e h)];exact s b u e
def codes(x:Str):LI:=x.cps.toList.M λn=>((n:Nat):Int)
abbrev iv(l:LI):ay:=l.M V.int
def VC(l:LI)(z:Int):iv (l++[z])=iv l++[.int z]:=by
 simp
def eJ{A B:Hp->Prop}(h:A H):CO σ H (λb j=>if b=true then A j else B j):=by
 ext CO;symm
def take_snoc{α:Type}{l:List α}{i:Nat}{x:α}(h:l[i]? =Α x):l.take (i+1)=l.take i++[x]:=by
 rw[List.take_succ,h];rfl
def f7{n:Nat}(h:n<=1000000):n<sizeLine:=qy h (by rw[yg];decide)
inductive Dy(vs:ay)(H:Hp)(Q:VK)(E':XK):Prop
 |mk (x:Str) (_:vs=[.str x]) (_:x.cps.u<=100000) (_:∀H' p,Ů p (.lst (iv ũ))->Q Ĝ H')
section
variable{P:Pg}{w:Wd}{K:FR}{mg:MG}{base:Heap}
def Nf:bC ["written","sign"] ["written"] (ba LU):=î
def ahZ{f:Addr}{fd:FD}(F:br K "spelled" "spelled" LU f fd)(j:mg "ord"=Β):Ë 1 f fd ["written"] Dy:=by
 refine F.ok Nf Â;let(x,rfl,O,k):=h;refine⟨_,aA (aV (eA (own:=[("sign",1)]) Á Nf.nd (afg Ø) Ê (λ_ _ _ _ _=>cZ 1 Nf.nd) Ò
  (λ_ _ _ _ _=>c8 adg Ð j boot_ord Ĺ))),?_⟩
 apply(_,Á,x,Á,λD q=>afZ (λi H'=>ai H H'/\H' D=Α (.lst (iv ((codes x).take i)))) ⟨aG q,aq⟩ (λi c H' hc ⟨z,hd⟩=>⟨Á,eJ ?_⟩) (λH' ⟨z,hd⟩=>?_))
 .let M:=(BR.mp hc).1;let J:ũ[i]? =Α (c:Int):=by
   ext codes;symm
  apply(_,Á,_,Á,Á,_,hd,?_,fc z q,?_)
  .rw[ak,iR];exact qy (Nat.min_le_left _ _) (f7 Î)
  .rw[aq,take_snoc J,VC];rfl
 .apply k H' D ⟨z,q,?_⟩;rw[hd];let:(codes x).L=x.cps.u:=by ext codes;rw[ak,yh]
  grind
abbrev eU(H:Hp)(j:LA)(L:dJ):Prop:=Paired (λq l=>H q=Α Œ) j L
inductive xw(K:FR)(vs:ay)(H:Hp)(Q:VK)(E':XK):Prop
 |mk (a:Addr) (m:Int) (ns:LI) (_:vs=[.ref a,.int m]) (_:ä a (iv ns)) (_:ns.L<=100000) (_:∀H' p qs,Ů p Ĕ->eU H' qs (JM.aN m ns)->qs.Nodup->p∉qs->(∀q∈qs,H q=Β)->Q Ĝ H')
def eU.same(h:eU H qs L)(s:ai H H'):eU H' qs L:=Paired.oq h λq l e=>s _ _ e
def eU.len(h:eU H qs L):qs.L=L.L:=Paired.length h
theorem eU.upd(h:eU H qs L)(n:p∉qs):eU (upd H p o) qs L:=by
 induction h with
 |nil=>exact .nil
 |cons r t j=>exact .cons (by rw[az (λz=>n (by rw[z];exact eO))];exact r) (j λz=>n (aK _ z))
theorem eU.mem(h:eU H qs L):∀q∈qs,∃l∈L,H q=Α Œ:=by
 induction h with
 |nil=>intro q h;cases h
 |cons r t z=>
  intro q h;rcases a8.mp h with rfl|h
  .exact(_,eO,r)
  .let(l,j,e):=z q h;exact(l,aK _ j,e)
theorem eU.snoc(e:H q=Α Œ)(h:eU H qs L):eU H (qs++[q]) (L++[l]):=by
 induction h with
 |nil=>exact .cons e .nil
 |cons r t j=>exact .cons r j
theorem eU.last(h:eU H qs L):L≠[]->∃j q,qs=j++[q]/\eU H j L.dropLast/\H q=Α (.lst (iv (L.getLastD []))):=by
 induction h with
 |nil=>exact λh=>absurd Á h
 |cons r t z=>
  intro _;cases t with
  |nil=>exact([],_,Á,.nil,r)
  |cons M t=>
   let(j,F,e,t',J):=z Ä;exact(_::j,F,by rw[e];rfl,.cons r t',J)
def Ng:bC ["text","mark","parts","byte"] ["text","mark"] (ba LW):=î
theorem GQ(m:Int):∀l:LI,(JM.aN m l).L<=l.L+1:=by
 intro l;induction l with
 |nil=>
  simp[JM.aN]
 |cons x r j=>
  let j:=j;ext JM.aN;split
  .simp only[dg];symm
  .split
   .simp
   .rename_i w l e;rw[e] at j;simp only[dg] at j⊢;lia
theorem yS(m:Int)(l:LI):∀(w:LI),w∈JM.aN m l->w.L<=l.L:=by
 induction l with
 |nil=>
  intro w h;simp[JM.aN] at h;simp[h]
 |cons x r j=>
  intro w h;let j:=j;delta JM.aN at h;split at h
  .rcases a8.mp h with rfl|h
   .simp
   .let:=j w h;simp only[dg];lia
  .cases e:JM.aN m r with
   |nil=>exact absurd e (JM.m5 m r)
   |cons W l=>
    rw[e] at h j;rcases a8.mp h with rfl|h
    .let:=j W eO;simp only[dg];symm
    .let:=j w (aK _ h);simp only[dg];lia
inductive CtI(a p:Addr)(m:Int)(ns:LI)(H:Hp)(i:Nat)(σ:L2.St)(H':Hp):Prop
 |mk (v:Option V) (qs:LA) (_:σ=[some ħ,some (.int m),some Ĝ,v]) (_:ai H H') (_:H' p=Α Ĕ) (_:eU H' qs (JM.aN m Èn)) (_:qs.Nodup) (_:p∉qs) (_:∀q∈qs,H q=Β)
def ah2{f:Addr}{fd:FD}(F:br K "cut" "cut" LW f fd):Ë 1 f fd ["text","mark"] (xw K):=by
 refine F.ok Ng Â;let(a,m,ns,rfl,hS,hl,k):=h;refine⟨_,aB (cf 2 Ng.nd (dv Åg))
  (aB (Į Åe (cZ 3 Ng.nd)
   (aA (dj (cw iB ö á (bU _))
    (aA (pI (Ü å Åg)))
    (aA (pI (Ü (cJ c9 å Âg Ö) ĳ))))))
  Çr),?_⟩
 apply(di _,λq0 Z=>⟨(by show 1<=sizeLine;decide),λp hp=>?_⟩);let l5:=(aG Z).free hp;let pq:p≠q0:=λz=>by rw[z,aq] at hp;cases hp
 refine⟨_,Á,a,Á,⟨_,(fc (aG Z) l5).seq hS⟩,pJ (K:=K) (a:=a) (xs:=iv ns) (CtI a p m ns H)
  ⟨none,[q0],rfl,fc (aG Z) l5,aq,.cons (by rw[az (eE pq)];exact aq) .nil,by simp,À pq,À Z⟩ (λi σ H' _ h=>(by let(_,_,_,J):=h;exact J.seq hS)) ?_ ?_⟩
 .rintro i y σ H' hi ⟨v,Y,rfl,J,j,h2,U,M,W⟩;obtain⟨z,hz,rfl⟩:∃z,ns[i]? =Α z/\y=V.int z:=by
   rw[bz] at hi;cases e:ns[i]? with
   |none=>rw[e] at hi;cases hi
   |some z=>rw[e] at hi;exact(z,Á,(aQ hi).symm)
  let dm:=(bo.mp hz).1;let et:=take_snoc hz;let ec:=JM.ahC m z Èn;let lq:Y.L<=i+1:=by
   rw[h2.len];apply gn (GQ m _) ?_;rw[iR];lia
  refine⟨_,Á,_,Á,Á,_,Á,a0 Ï Ï⟩
  .simp at hc;apply(_,Á,.inl ⟨Á,_,aa.of j⟩,di _,λq O=>⟨p,_,_,Á,Á,(by rw[az (eQ j O)];exact j),(by rw[ak];exact f7 Î),?_⟩);let GT:=J.free O;let VD:q∉Y:=λhm=>by
    let(l,_,r):=eU.mem h2 q hm;rw[r] at O;cases O
   apply(_,Y++[q],Á,fc (fc J GT) l5,?_,?_,?_,?_,?_)
   .rw[aq,bH];rfl
   .rw[et,ec];ext JM.xq;rw[ah hc];exact eU.upd (eU.snoc (l:=[]) aq (eU.upd h2 VD)) (λz=>by
     rcases fu.mp z with z|z
     .exact M z
     .exact eQ j O (À z))
   .exact K4 U VD
   .intro z;rcases fu.mp z with z|z
    .exact M z
    .exact eQ j O (À z)
   .intro q' z;rcases fu.mp z with z|z
    .exact W q' z
    .rw[show q'=q by simpa using z];exact GT
  .simp at hc;let(g9,q,rfl,t',r'):=eU.last h2 (JM.m5 m _);let nqs:=λz=>by
    let:=(RO.mp U).2.2 q z q Ä;exact this Á
   apply(_,Á,_,Á,p,_,_,V.ref q,Á,Á,aa.of j,?_,.inl ⟨Á,_,aa.of r'⟩,_,Á,q,_,_,Á,Á,r',?_,?_)
   .rw[bH];exact wX _ _
   .rw[ak];let:((JM.aN m Èn).getLastD []).L<=(ns.take i).L:=by
     apply yS m _ _ ?_;rw[List.getLastD_eq_getLast?];cases e:(JM.aN m Èn).getLast? with
     |none=>exact absurd (atY.mp e) (JM.m5 m _)
     |some l=>exact Fq e
    rw[iR] at this;exact f7 Î
   .let np:p≠q:=λz=>M (by rw[z];simp);apply(_,g9++[q],Á,fc J (W q Ä),by rw[az np];exact j,?_,U,M,W);rw[et,ec];ext JM.xq;rw[ag hc];apply eU.snoc ?_ (eU.upd t' nqs);rw[aq];exact b9 (λz=>some (HO.lst z)) (VC _ _).symm
 .rintro σ H' ⟨v,Y,rfl,J,j,h2,U,M,W⟩;rw[ak,i4] at h2;exact(_,Á,k H' p Y ⟨J,l5,j⟩ h2 U M W)
end
def oI:Option Nat->V
 |some i=>.int (i:Nat)
 |none=>.aO
def bV(q:dJ)(part:LI):Option Nat:=q.findIdx? λw=>decide (w=part)
inductive GU(K:FR)(vs:ay)(H:Hp)(Q:VK)(E':XK):Prop
 |mk (aw ap:Addr) (qv:LS) (part:LI) (_:vs=[.ref aw,.ref ap]) (_:š aw (qv.M V.str)) (_:(∀x∈qv,x.cps.u<=100000)) (_:ä ap Ão) (_:∀H',ai H H'->Q (oI (bV (qv.M codes) part)) H')
def find_none{α:Type}{p:α->Bool}{l:List α}(h:∀x∈l,p x=false):l.findIdx? p=Β:=by
 symm
theorem ah4{α:Type}{p:α->Bool}{l:List α}:∀{i:Nat}{x:α},l[i]? =Α x->(∀y∈l.take i,p y=false)->p x=true->l.findIdx? p=Α i:=by
 induction l with
 |nil=>intro i x h _ _;simp at h
 |cons a l F=>
  intro i x h j q;rw[abm];cases i with
  |zero=>
   let e:=aQ h;subst e;rw[q];rfl
  |succ i=>
   rw[j a Ä,F (i:=i) (x:=x) h (λy z=>j y (by rw[RT];exact aK _ z)) q];rfl
def ai.tup{K:FR}{H H':Hp}{a:Addr}{xs:ay}(e:ai H H')(h:š a xs):bw K H' a xs:=by
 rcases h with (h|⟨o,h⟩)|h
 .exact .inl (.inl (e _ _ h))
 .exact .inl (.inr ⟨o,e _ _ h⟩)
 .exact .inr h
section
variable{P:Pg}{w:Wd}{K:FR}{mg:MG}{base:Heap}
def VE:bC ["words","part","place","word"] ["words","part"] (ba LY):=î
def ah5{f O:Addr}{fd yT:FD}(F:br K "place_among" "place_among" LY f fd)(tE:mg "enumerate"=Β)(GS:Ë 1 O yT ["written"] Dy)(mS:mg "spelled"=Α (.ref O))(kS:PySem.W.keepIn K (.ref O)=true)(bS:Binds K yT ["written"] []):
  aZ P w K mg base aE 2 f fd ["words","part"] (GU K):=by
 refine F.ok VE Â;let(M,ap,J,part,rfl,hW,hw,hP,k):=h;refine⟨_,aB (i6 jI Á (UV Ð tE õ) (iA 2 3 VE.nd)
   (aA (dj (cw (af9 hr.units) (nH GS hr rfl mS kS bS .nil tW ĳ) á (bU _)) Çr dQ)))
  ϋ,?_⟩
 refine⟨_,Á,M,_,Á,hW,UW (K:=K) (a:=M) (xs:=J.M V.str) (λi σ H'=>∃Z v3:Option V,σ=[some (.ref M),some Én,Z,v3]/\ai H H'/\∀y∈(J.M codes).take i,decide (y=part)=false)
  ⟨none,none,rfl,ai.refl H,by simp⟩ (λi σ H' _ ⟨_,_,_,j,_⟩=>ai.tup j hW) ?_ ?_⟩
 .rintro i y T σ H' hi ⟨Z,v3,rfl,j,z⟩ hT;obtain⟨x,hx,rfl⟩:∃x,J[i]? =Α x/\y=V.str x:=by
   grind
  let s2:=fc (o:=.tup [.int (i:Nat),.str x]) j (j.free hT);apply(T,_,Á,bw.of aq,Á,_,_,Á,_,_,Á,Á,_,Á,x,Á,hw x (bj hx),λH2 p hN=>?_);let Y:=s2.R hN.1;let pQ:(J.M codes)[i]? =Α ũ:=by rw[bz,hx];rfl
  refine⟨_,Á,p,ap,codes x,part,Á,Á,aa.of hN.2.2,Y.seq hP,_,Á,a0 Ï Ï⟩
  .refine Ę;let e:=ah4 pQ z hc;let q:=k H2 Y;delta bV at q;rw[e] at q;exact q
  .apply(_,_,Á,Y,λy U=>?_);rw[take_snoc pQ] at U;grind
 .rintro σ H' ⟨Z,v3,rfl,j,z⟩;let q:=k H' j;rw[ak] at z;delta bV at q;rw[find_none (λy U=>z y (by rw[<-ak (f:=codes),i4];exact U))] at q;exact q
def kC(signs part:LI):Option LI:=if part.all (λb=>signs.Y b)=true then some (part.M λb=>((signs.idxOf b:Nat):Int)) else none
inductive GV(K:FR)(vs:ay)(H:Hp)(Q:VK)(E':XK):Prop
 |mk (x:Str) (ap:Addr) (part:LI) (_:vs=[.str x,.ref ap]) (_:x.cps.u<=100000) (_:ä ap Ão) (_:part.L<=100000) (_:(kC ũ part=Β->∀H',ai H H'->Q .aO H')) (_:∀l,kC ũ part=Α l->∀H' p,Ů p Œ->Q Ĝ H')
theorem Nh(b:Int):∀l:LI,wZ (.int b) (iv l)=l.Y b:=by
 intro l;induction l with
 |nil=>exact Á
 |cons x l j=>
  let j:=j;delta wZ iv at j⊢;rw[a7,va,j,BQ];congr 1;show(x==b)=(b==x);by_cases h:x=b
  .subst h;rfl
  .let h2:¬b=x:=λz=>h z.symm;rw[yi.mpr h,yi.mpr h2]
theorem DA:∀l:LI,(iv l).all mZ=true:=by
 intro l;induction l with
 |nil=>exact Á
 |cons x l j=>
  show(mZ (.int x)&&(iv l).all mZ)=true;rw[j];rfl
theorem ua{l:LI}{i:Nat}{y:V}(h:(iv l)[i]? =Α y):∃z,l[i]? =Α z/\y=V.int z:=by
 delta iv at h;rw[bz] at h;cases e:l[i]? with
 |none=>rw[e] at h;cases h
 |some z=>rw[e] at h;exact(z,Á,(aQ h).symm)
def ah6(l:List Bool)(b:Bool):(l++[b]).M V.bl=l.M V.bl++[.bl b]:=by
 simp
def VF{l:LI}{b:Int}(h:l.Y b=true):∃j z,l.idxOf b=j/\(iv l)[j]? =Α z/\qG z (.int b)=true/\∀(m:Nat)(Z:V),m<j->(iv l)[m]? =Α Z->qG Z (.int b)=false:=by
 let M:b∈l:=À h
 let J:l.idxOf b<l.L:=List.idxOf_lt_length_of_mem M;apply(_,.int b,Á,?_,?_,λm Z q hz=>?_)
 .ext iv;rw[bz,cI J,List.getElem_idxOf];rfl
 .show(b==b)=true;exact abl b
 .let(z,F,rfl):=ua hz;show(z==b)=false;let:=List.not_of_lt_findIdx (p:=(· ==b)) (xs:=l) (i:=m) q;let(O,e):=bo.mp F;rw[e] at this;simpa using this
def AL:bC ["signs","part","known","byte"] ["signs","part"] (ba LZ):=î
def ah7{f Y:Addr}{fd yT:FD}(F:br K "places_in" "places_in" LZ f fd)(tA:mg "all"=Β)(GS:Ë 1 Y yT ["written"] Dy)(mS:mg "spelled"=Α (.ref Y))(kS:PySem.W.keepIn K (.ref Y)=true)(bS:Binds K yT ["written"] []):
  aZ P w K mg base aE 2 f fd ["signs","part"] (GV K):=by
 refine F.ok AL Â;let(x,J,part,rfl,hx,M,hl,k0,k1):=h;refine⟨_,aB (cf 2 AL.nd (nH GS hr Á mS kS bS .nil tW õ))
  (aB (dj (qB (jh (c8 (w6 rfl) Ð tA zY (ae (eA (own:=[("byte",3)]) (te:=bQ (FY K false) Ŀ ř) rfl AL.nd Åd Ê (λ_ _ _ _ _=>cZ 3 AL.nd) Ò
     (λ_ _ _ _ _=>j7 KA ö å (by with_unfolding_all rfl))) af)))) ϋ dQ)
  (aA (aV (eA (own:=[("byte",3)]) (te:=To K "list" (Tx K) ř Âk) rfl AL.nd Åd Ê (λ_ _ _ _ _=>cZ 3 AL.nd) Ò
     (λ_ _ _ _ _=>pO PySem.F.plainAttrs_list PySem.F.slot_list_index PySem.F.type_list_index TF å ĳ))))),?_⟩
 apply(_,Á,x,Á,hx,λH1 pk Z=>?_);let s1:=Z.1;refine⟨_,Á,J,Á,⟨_,s1.seq M⟩,λD hD=>fV (K:=K) (a:=J) (xs:=iv part) (λi H'=>ai H1 H'/\H' D=Α (.lst (((part.take i).M λb=>(codes x).Y b).M V.bl))) ⟨aG hD,aq⟩
  (λi H' _ ⟨s2,_⟩=>(s1.R s2).seq M) (λi y H' hi ⟨s2,hd⟩=>?_) (λH' ⟨s2,hd⟩=>?_)⟩
 .let(z,hz,rfl):=ua hi;let dm:=(bo.mp hz).1;apply(Á,eJ ⟨_,Á,_,Á,pk,_,Á,.inl (aa.of (s2 _ _ Z.2.2)),Á,DA _,_,hd,?_,fc s2 hD,?_⟩)
  .rw[ak,ak,iR];exact f7 (by grind)
  .rw[aq,take_snoc hz,bH];show some (HO.lst (_++[V.bl (wZ (.int z) (iv ũ))]))=Α (HO.lst ((_++[_]).M V.bl));rw[ah6,Nh]
 .rw[show(iv part).L=part.L by simp,i4] at hd;apply(D,_,Á,aa.of hd,_,Á,?_);let ea:(part.M λb=>(codes x).Y b).all id=part.all λb=>(codes x).Y b:=by
   simp
  rw[ea];refine a0 Ï Ï
  .simp at hc;apply k0 ?_ H' Áo;ext kC;symm
  .let hc:part.all (λb=>(codes x).Y b)=true:=by simpa using hc
   let e1:kC ũ part=Α (part.M λb=>(((codes x).idxOf b:Nat):Int)):=by
    ext kC;symm
   refine⟨_,Á,J,Á,⟨_,(s1.R s2).seq M⟩,λD2 U=>fV (K:=K) (a:=J) (xs:=iv part) (λi q=>ai H' q/\q D2=Α (.lst (iv ((part.take i).M λb=>(((codes x).idxOf b:Nat):Int))))) ⟨aG U,aq⟩
    (λi q _ ⟨s3,_⟩=>((s1.R s2).R s3).seq M) (λi y q hi ⟨s3,O⟩=>?_) (λq ⟨s3,O⟩=>?_)⟩
   .let(z,hz,rfl):=ua hi;let dm:=(bo.mp hz).1;let(j,zz,ej,hj,Nj,DB):=VF (jH.mp hc z (bj hz));let hk:=(ğ) _ _ Z.2.2;apply(Á,eJ ⟨_,Á,.inl ⟨Á,_,aa.of hk⟩,_,Á,pk,_,_,j,zz,Á,Á,aa.of hk,Á,DA _,hj,Nj,DB,_,O,?_,fc s3 U,?_⟩)
    .ext iv;rw[ak,ak,iR];exact f7 (by grind)
    .rw[aq,take_snoc hz,bH,<-ej];simp
   .rw[show(iv part).L=part.L by simp,i4] at O;exact k1 _ e1 q D2 ⟨(s1.R s2).R s3,(s1.R s2).free U,O⟩
def iF(part:LI):Option LI:=if part.L=16 then kC JM.mj part else none
inductive Nk(K:FR)(vs:ay)(H:Hp)(Q:VK)(E':XK):Prop
 |mk (ap:Addr) (part:LI) (_:vs=[.ref ap]) (_:ä ap Ão) (_:part.L<=100000) (_:(iF part=Β->∀H',ai H H'->Q .aO H')) (_:∀l,iF part=Α l->∀H' p,Ů p Œ->Q Ĝ H')
def ah8:bC ["part"] ["part"] (ba L6):=î
def dw(l:LI):(iv l).L=l.L:=by ext iv;rw[ak]
def ah9(F:br K "read_colours" "read_colours" L6 f fd)(tL:mg "len"=Β)(mC:mg "COLOUR_SIGNS"=Α uC)(rC:RelV (.str "0123456789abcdef") uC)(J:Ë 2 fP Nl ["signs","part"] (GV K)) (Z:mg "places_in"=Α (.ref fP)) (Y:PySem.W.keepIn K (.ref fP)=true) (M:Binds K Nl ["signs","part"] []):
  aZ P w K mg base aE 3 f fd ["part"] (Nk K):=by
 refine F.ok ah8 Â;let(j,part,rfl,q,U,k0,k1):=h;refine⟨_,aB (dj (cw wR č bc (bU _)) ϋ dQ)
  (aA (aV (nH J hr rfl Z Y M .nil tW (ae (vp Ð mC rC) õ)))),?_⟩
 refine⟨_,Á,j,_,Á,.inl q,Á,_,Á,a0 Ï Ï⟩
 .let hc:¬part.L=16:=by
   grind
  apply k0 ?_ H ſ;ext iF;symm
 .let hc:part.L=16:=by
   grind
  let e:iF part=kC (codes "0123456789abcdef") part:=by
   ext iF;rw[ah hc];rfl
  exact(_,Á,_,j,part,Á,by decide,q,U,λz H' s1=>k0 Èr H' s1,λl z H' p O=>k1 l Èr H' p O)
end
def Dn(P:Pg)(w:Wd)(K:FR)(mg:MG)(base:Heap)(CX:ox)(k:Nat)(x:Str)(ps:LS)(sp:Sp):Prop:=
 ∃f fd,Ģ CX k f fd ps sp/\mg x=Α ď/\PySem.W.keepIn K ď=true/\L2.Binds K fd ps []
def Cn(mg:MG)(x:Str)(v:V):Prop:=∃u,mg x=Α u/\RelV v u
def Tn(K:FR)(mg:MG)(x:Str)(xs:ay):Prop:=∃a,mg x=Α ħ/\∀H,š a xs
def LstAt(H H':Hp):Option LI->V->Prop
 |none,v=>v=.aO
 |some l,v=>∃c,v=.ref c/\H c=Β/\H' c=Α Œ
section
variable{X:Cx}
def bx{CX:ox}{k m:Nat}{x:Str}{ps:LS}{sp:Sp}{e:Expr}{es:List Expr}{t:TA}{p pos:Pos}{E:XK}(d:Dn X.prog X.w X.K X.mg X.base CX k x ps sp)(q:PA X (e::es) t)(hr:eS m X.A:=by assumption)(J:vw CX X E:=by exact tW)(hk:k<=m:=by decide)(F:Gl X x:=by rfl)(M:(x==("__debug__":Str))=false:=by decide)(z:starEach (e::es) X.env=(false,eval e X.env)::starEach es X.env:=by rfl)(j:(backTo pos û).any (·.1)=false:=by rfl):PE X (.Call Ϗ (e::es) [] pos) (g8 sp [] E t):=
 let ⟨_,_,g,a,b,c⟩:=d
 nH g (hr.mono hk) F a b c .nil J q M z j
def cu{x:Str}{v:V}{pos:Pos}(c:Cn X.mg x v)(j:Gl X x:=by rfl)(hd:(x==("__debug__":Str))=false:=by decide):PE X Àc (tC v):=let ⟨_,m,r⟩:=c;vp j m r hd
end
structure eB where
 a:Addr
 dx:Addr
 l:Addr
 shape:Nat
 cells:LI
structure cz where
 a:Addr
 dx:Addr
 l:Addr
 above:Bool
 below:Bool
 flags:List eB
structure dZ where
 a:Addr
 dx:Addr
 cl:Addr
 gl:Addr
 side:Nat
 classes:LI
 ao:List cz
structure Cs where
 S:Addr
 G:Addr
 P:Addr
abbrev Nd:=Addr×HO
def xx(s:eB):List (Str×V):=[("shape",.int (s.shape:Nat)),("cells",.ref s.l)]
def qT(g:cz):List (Str×V):=[("above",.bl g.above),("below",.bl g.below),("flags",.ref g.l)]
def nR(p:dZ):List (Str×V):=[("side",.int (p.side:Nat)),("classes",.ref p.cl),("glimpses",.ref p.gl)]
def gV(C:Cs)(s:eB):List Nd:=[(s.a,.ins C.S s.dx (xx s)),(s.l,.lst (iv s.cells))]
def gW(C:Cs)(g:cz):List Nd:=(g.a,.ins C.G g.dx (qT g))::(g.l,.lst (g.flags.M λs=>V.ref s.a))::g.flags.flatMap (gV C)
def eY(C:Cs)(p:dZ):List Nd:=(p.a,.ins C.P p.dx (nR p))::(p.cl,.lst Ř)::(p.gl,.lst (p.ao.M λg=>V.ref g.a))::p.ao.flatMap Æh
def Lies(H:Hp)(ns:List Nd):Prop:=∀x∈ns,H x.1=Α x.2
def Lies.same{H H':Hp}{ns:List Nd}(h:Lies H ns)(s:ai H H'):Lies H' ns:=λx j=>s _ _ (h x j)
structure iV where
 above:Bool
 below:Bool
 flags:List (Nat×LI)
structure eV where
 side:Nat
 classes:LI
 ao:List iV
def eB.m(s:eB):Nat×LI:=(s.shape,s.cells)
def cz.m(g:cz):iV:=⟨g.above,g.below,g.flags.M eB.m⟩
def dZ.m(p:dZ):eV:=⟨p.side,p.classes,p.ao.M cz.m⟩
section
variable{C:Cs}{H:Hp}{p:dZ}
def Lies.pl(h:Lies H Áx):H p.a=Α (.ins C.P p.dx (nR p)):=h (p.a,_) (by ext eY;simp)
def Lies.cl(h:Lies H Áx):H p.cl=Α (.lst Ř):=h (p.cl,_) (by ext eY;simp)
def Lies.gl(h:Lies H Áx):H p.gl=Α (.lst (p.ao.M λg=>V.ref g.a)):=h (p.gl,_) (by ext eY;simp)
def Lies.sub(h:Lies H Áx){g:cz}(j:g∈p.ao):Lies H Çi:=λx q=>h x (by
 ext eY;exact aK _ (aK _ (aK _ (jg.mpr ⟨g,j,q⟩))))
def Lies.ga{g:cz}(h:Lies H Çi):H g.a=Α (.ins C.G g.dx (qT g)):=h (g.a,_) (by ext gW;simp)
def Lies.fl{g:cz}(h:Lies H Çi):H g.l=Α (.lst (g.flags.M λs=>V.ref s.a)):=h (g.l,_) (by ext gW;simp)
def Lies.AM{g:cz}(h:Lies H Çi){s:eB}(hs:s∈g.flags):Lies H (gV C s):=λx j=>h x (by
 ext gW;exact aK _ (aK _ (jg.mpr ⟨s,hs,j⟩)))
def Lies.sa{s:eB}(h:Lies H (gV C s)):H s.a=Α (.ins C.S s.dx (xx s)):=h (s.a,_) (by ext gV;simp)
def Lies.sl{s:eB}(h:Lies H (gV C s)):H s.l=Α (.lst (iv s.cells)):=h (s.l,_) (by ext gV;simp)
end
def gK{f:Str}{v:V}{r:List (Str×V)}:((f,v)::r).Q f=Α v:=by
 rw[yj,abl]
def fm{f g:Str}{v:V}{r:List (Str×V)}(h:(f==g)=false):((g,v)::r).Q f=r.Q f:=by
 rw[yj,h]
def VG(p:dZ):(nR p).Q ("side":Str)=Α (.int (p.side:Nat)):=gK
def GW(p:dZ):(nR p).Q ("classes":Str)=Α (.ref p.cl):=(fm É).R gK
def m7(p:dZ):(nR p).Q ("glimpses":Str)=Α (.ref p.gl):=(fm É).R ((fm É).R gK)
def Nm(g:cz):(qT g).Q ("above":Str)=Α (.bl g.above):=gK
def Nn(g:cz):(qT g).Q ("below":Str)=Α (.bl g.below):=(fm É).R gK
def vL(g:cz):(qT g).Q ("flags":Str)=Α (.ref g.l):=(fm É).R ((fm É).R gK)
def GX(s:eB):(xx s).Q ("shape":Str)=Α (.int (s.shape:Nat)):=gK
def DC(s:eB):(xx s).Q ("cells":Str)=Α (.ref s.l):=(fm É).R gK
structure lx(K:FR)(C:Cs):Prop where
 cS:l7 K C.S
 cG:l7 K C.G
 cP:l7 K C.P
 yU:g7 K C.S "shape"
 DE:g7 K C.S "cells"
 Np:g7 K C.G "above"
 Nq:g7 K C.G "below"
 vM:g7 K C.G "flags"
 Nr:g7 K C.P "side"
 DF:g7 K C.P "classes"
 m8:g7 K C.P "glimpses"
theorem qU{α:Type}(l:List α):l=[]\/∃r x,l=r++[x]:=by
 cases e:l.getLast? with
 |none=>exact .inl (atY.mp e)
 |some x=>
  right;let(r,hr):=List.getLast?_eq_some_iff.mp e;exact(r,x,hr)
inductive GY(C:Addr)(ns:LS)(vs:ay)(H:Hp)(Q:VK)(E':XK):Prop
 |mk (x dx:Addr) (as:ay) (_:vs=.ref x::as) (_:as.L=ns.L) (_:H x=Α Âx) (_:∀H',H' x=Α (.ins C dx (ns.zip as))->(∀b o,H b=Α o->b≠x->H' b=Α o)->Q .aO H')
def nU(P:Pg)(w:Wd)(K:FR)(mg:MG)(base:Heap)(x:Str)(C:Addr)(ns:LS):Prop:=
 ∃f fd,Mk K C f/\Ë 1 f fd ("self"::ns) (GY C ns)/\mg x=Α Ĉ/\L2.Binds K fd ("self"::ns) []
def aia{f g:Str}{v x:V}{r:List (Str×V)}(h:¬g=f):iE f v ((g,x)::r)=(g,x)::iE f v r:=by
 show(if g=f then (g,v)::r else (g,x)::iE f v r)=_;rw[ag h]
section
variable{P:Pg}{w:Wd}{K:FR}{mg:MG}{base:Heap}{C:Cs}
end
def ite_yes{c A B:Prop}[Decidable c](hc:c)(h:A):if decide c=true then A else B:=by
 rw[ah (eP hc)];exact h
def ite_no{c A B:Prop}[Decidable c](hc:¬c)(h:B):if decide c=true then A else B:=by
 rw[ag (À hc)];exact h
section
variable{X:Cx}
def pV{m:Nat}{x:Str}{C:Addr}{ns:LS}{e:Expr}{es:List Expr}{t:TA}{p pos:Pos}(d:nU X.prog X.w X.K X.mg X.base x C ns)(hr:eS m X.A)(q:PA X (e::es) t)(hk:2<=m:=by decide)(F:Gl X x:=by rfl)(J:(x==("__debug__":Str))=false:=by decide)(z:starEach (e::es) X.env=(false,eval e X.env)::starEach es X.env:=by rfl)(j:(backTo pos û).any (·.1)=false:=by rfl):PE X (.Call Ϗ (e::es) [] pos) (SW C (GY C ns) [] E0 t):=
 let ⟨_,_,M,g,a,c⟩:=d
 adA M g (hr.mono hk) F a c .nil tW q J z j
end
end HD
namespace HD
open PySem PySem.Spec PyProof.Rows L2
theorem aib{f:Str}{v:V}{fs:List (Str×V)}:(∀x∈fs.M (·.1),¬x=f)->iE f v fs=fs++[(f,v)]:=by
 induction fs with
 |nil=>exact @λ_=>Á
 |cons j r z=>
  let(g,x):=j;intro h;rw[aia (h g Ä),z λy q=>h y (aK _ q)];rfl
def GZ(K:FR):Nat->LS->TS
 |_,[]=>Sy
 |k,[n]=>FV K Ų (ax k) n
 |k,n::ns=>Ke (FV K Ų (ax k) n) (GZ K (k+1) ns)
theorem VH{K:FR}{C x dx:Addr}(c:l7 K C){σ:L2.St}(J:σ[0]? =Α (some (V.ref x))){D:Ends}:∀(ns:LS)(as:ay)(done:List (Str×V))(k:Nat)(H:Hp),as.L=ns.L->(∀(i:Nat)a,as[i]? =Α a->σ[k+i]? =Α (some a))->H x=Α (.ins C dx done)->done.L+ns.L<=1000->
  (∀n∈ns,n∉done.M (·.1))->ns.Nodup->(∀n∈ns,ϱ n)->(∀H',H' x=Α (.ins C dx (done++ns.zip as))->(∀b o,H b=Α o->b≠x->H' b=Α o)->D.nx σ H')->GZ K k ns D σ H
 |[],as,done,k,H,hl,ha,hx,hs,hf,hd,hn,q=>by
  obtain rfl:as=[]:=À hl
  exact q H (À hx) λb o e _=>e
 |n::ns,a::as,done,k,H,hl,ha,hx,hs,hf,hd,hn,q=>by
  rw[dg] at hs;let(W,O):=kY.mp hd;let U:iE n a done=done++[(n,a)]:=aib λy z e=>hf n Ä (by rw[<-e];exact z);let step:∀F:Ends,F.nx σ (upd H x (.ins C dx (done++[(n,a)])))->FV K Ų (ax k) n F σ H:=λF h=>by
   apply(a,ha 0 a Á,_,J,x,C,dx,done,Á,hx,c,hn n Ä,by lia,?_);rw[U];exact h
  let b7:∀H',H' x=Α (.ins C dx ((done++[(n,a)])++ns.zip as))->(∀b o,upd H x (.ins C dx (done++[(n,a)])) b=Α o->b≠x->H' b=Α o)->D.nx σ H':=λH' Y h2=>by
   apply q H' (by rw[Y,rJ];rfl) λb o e M=>h2 b o ?_ M;rw[az M];exact e
  cases ns with
  |nil=>
   obtain rfl:as=[]:=À hl
   exact step D (b7 _ (by rw[aq];simp) λb o e _=>e)
  |cons m ms=>
   apply step _ (VH c J (m::ms) as (done++[(n,a)]) (k+1) _ (À hl) (λi b e=>?_) aq (by simp at hs⊢;lia) (λy z j=>?_) O (λy z=>hn y (aK _ z)) b7)
   .rw[show k+1+i=k+(i+1) by lia];exact ha (i+1) b e
   .rw[bH] at j;rcases fu.mp j with j|j
    .exact hf y (aK _ z) j
    .obtain rfl:y=n:=by simpa using j
     exact W z
def aic{P:Pg}{w:Wd}{K:FR}{mg:MG}{base:Heap}{C:Addr}{ns:LS}{q:Str}{st:Stmt}{f:Addr}{fd:FD}(F:br K "__init__" q st f fd)(c:l7 K C)(n:∀n∈ns,ϱ n)(S:bC ("self"::ns) ("self"::ns) Âj)(hs:ns.L<=1000)(d:∀aJ A outer s H E,l6 (oy aE P w K mg base ("self"::ns) q Âj f aJ A outer s H E).yu Çd (GZ K 1 ns)):Ë 1 f fd ("self"::ns) (GY C ns):=by
 refine F.ok S (len:=λvs H Q E h=>(by let(x,dx,as,rfl,j,_):=h;exact b9 (· +1) j)) Â;let(x,dx,as,rfl,j,z,k):=h;apply(_,d aJ A outer s H E,VH c (by ext L2.start;rfl) ns as [] 1 H j (λi a e=>?_) z (À hs) Ä (kY.mp S.nd).2 n λH' h2 J=>k H' h2 J);ext L2.start;let hi:=(bo.mp e).1;rw[Fj (by simp;lia),bz,show 1+i=i+1 by lia,atM,e];rfl
end HD
namespace HD
open PySem PySem.Spec PyProof.Rows L2
open PySem.W (Codec)
def ly(line:LI):Option LI:=if line.L=4 then kC JM.qR line else none
inductive VI(K:FR)(vs:ay)(H:Hp)(Q:VK)(E':XK):Prop
 |mk (ap:Addr) (line:LI) (_:vs=[.ref ap]) (_:ä ap Æo) (_:line.L<=100000) (_:∀H' v,ai H H'->LstAt H H' (ly line) v->Q v H')
section
variable{P:Pg}{w:Wd}{K:FR}{mg:MG}{base:Heap}
def aid:bC ["line"] ["line"] (ba Mn):=cg
def aie(F:br K "read_row" "read_row" Mn f fd)(tL:mg "len"=Β)(M:Cn mg "ROW" (.int 4))(cS:Cn mg "SEEN_SIGNS" (.str "0123456789abcdef?"))(O:Ç 2 "places_in" ["signs","part"] (GV K)):Ë 3 f fd ["line"] (VI K):=by
 refine F.ok aid Â;let(q,part,rfl,J,U,k):=h;refine⟨_,aB (dj (cw wR č (cu M) (bU _)) ϋ dQ)
  (aA (aV (bx (hr:=hr) O (ae Çm õ)))),?_⟩
 refine⟨_,Á,q,_,Á,.inl J,Á,_,Á,a0 Ï Ï⟩
 .let hc:¬part.L=4:=by
   grind
  apply k H .aO ſ ?_;ext ly;rw[ag hc];rfl
 .let hc:part.L=4:=by
   grind
  let e:ly part=kC (codes "0123456789abcdef?") part:=by
   ext ly;rw[ah hc];rfl
  exact(_,Á,_,q,part,Á,by decide,J,U,λz H' W=>k H' _ W (by rw[e,z];rfl),λl z H' p j=>k H' _ j.1 (by rw[e,z];exact(p,rfl,j.2.1,j.2.2)))
def eI(line:LI):Option (Nat×LI):=match JM.aN 32 line with
 |[a,b,c]=>if a=JM.kq then (match bV JM.vK b,iF c with
  |some s,some l=>some (s,l)
  |_,_=>none) else none
 |_=>none
def AN(H H':Hp):Option (Nat×LI)->V->Prop
 |none,v=>v=.aO
 |some (s,l),v=>∃t c,v=.ref t/\H t=Β/\H c=Β/\H' t=Α (.tup [.int (s:Nat),.ref c])/\H' c=Α Œ
inductive VJ(K:FR)(vs:ay)(H:Hp)(Q:VK)(E':XK):Prop
 |mk (ap:Addr) (line:LI) (_:vs=[.ref ap]) (_:ä ap Æo) (_:line.L<=100000) (_:∀H' v,ai H H'->AN H H' (eI line) v->Q v H')
def G0:bC ["line","words","side","classes"] ["line"] (ba Mm):=cg
def yV:LS:=["front","behind","unknown"]
def aif(F:br K "read_side" "read_side" Mm f fd)(tL:mg "len"=Β)(cB:Cn mg "BLANK" Æs)(cS:Tn K mg "SIDES" (yV.M V.str))(dC:Ç 1 "cut" ["text","mark"] (xw K)) (dS:Ç 1 "spelled" ["written"] Dy) (dA:Ç 2 "place_among" ["words","part"] (GU K)) (dR:Ç 3 "read_colours" ["part"] (Nk K)):
  aZ P w K mg base aE 4 f fd ["line"] (VJ K):=by
 let(aS,mS,hS):=cS;refine F.ok G0 Â;let(ap,line,rfl,hP,hl,k):=h;let qV:eS 1 _:=hr.mono Ñ;let ub:eS 2 _:=hr.mono Ñ;refine⟨_,aB (cf 1 G0.nd (bx (hr:=qV) dC (ae Ø Ϸ)))
  (aB (dj (PW.pt (pw_or (cw wR Ă bc (bU _))
    (pw_or1 (cw (Lh hr.units) (cJ c9 á bc Ö) (bx (hr:=qV) dS (ae FE af)) (bU _))))) ϋ dQ)
  (aB (cf 2 G0.nd (bx (hr:=ub) dA (ae (vp (v:=.ref aS) Ð mS rfl) Ş)))
  (aB (cf 3 G0.nd (bx (hr:=hr) dR Ş))
  (aB (dj (PW.pt (pw_or Çe (pw_or1 (pH (rR ö))))) ϋ dQ)
  (aA (aV (rX (ae å ĳ)))))))),?_⟩
 apply(_,Á,ap,32,line,Á,hP,hl,λH1 p qs U j nd np hf=>?_);let bZ:((qs.M V.ref).L:Int)=((JM.aN 32 line).L:Nat):=by rw[ak,j.len]
 let s1:=U.1;refine⟨_,Á,p,_,Á,.inl (aa.of U.2.2),Á,_,Á,a0 Ï Ï⟩
 .apply k H1 .aO s1 ?_;let:eI line=Β:=by
   ext eI;grind
  rw[this];rfl
 .let h3:(JM.aN 32 line).L=3:=by
   grind
  obtain⟨a,b,c,O⟩:∃a b c,JM.aN 32 line=[a,b,c]:=by
   match JM.aN 32 line,h3 with
   |[a,b,c],_=>exact(a,b,c,Á)
  rw[O] at j;let Nt:∀w∈[a,b,c],w.L<=100000:=λw hw=>gn (yS 32 line w Å) hl;obtain⟨qa,qb,qc,rfl⟩:∃x y z,qs=[x,y,z]:=by
   let:=j.len
   match qs,this with
   |[x,y,z],_=>exact(x,y,z,Á)
  cases j with
  |cons ha j=>
   cases j with
   |cons hb j=>
    cases j with
    |cons jL j=>
     apply⟨_,Á,p,_,0,V.ref qa,Á,Á,aa.of U.2.2,Á,"seen",Á,by decide,λH2 p2 q=>?_⟩;let M:=s1.R q.1;refine⟨qa,p2,a,codes "seen",Á,Á,aa.of (q.1 _ _ ha),aa.of q.2.2,_,Á,a0 ģ ģ⟩
     .apply k H2 .aO M ?_;let:eI line=Β:=by
       ext eI;rw[O];show(if a=JM.kq then _ else none)=Β;simp at hd;rw[ag (λz=>hd (z.R rfl))]
      rw[this];rfl
     .simp at hd;apply(_,Á,p,_,1,V.ref qb,Á,Á,aa.of (q.1 _ _ U.2.2),Á,aS,qb,yV,b,Á,hS H2,by decide,aa.of (q.1 _ _ hb),λH3 J=>?_);apply(_,Á,p,_,2,V.ref qc,Á,Á,aa.of (J _ _ (q.1 _ _ U.2.2)),Á,qc,c,Á,aa.of (J _ _ (q.1 _ _ jL)),Nt c Ä,λz Z W=>?_,λl z Z p4 Y=>?_)
      .
       let en:eI line=Β:=by
        ext eI;rw[O];show(if a=JM.kq then _ else none)=Β;rw[ah (show a=JM.kq from hd),z];cases bV JM.vK b <;> rfl
       apply(_,Á,_,Á,a0 Èz (λ_=>⟨_,Á,_,Á,lp ?_⟩))
       .exact k Z .aO ((M.R J).R W) (by rw[en];rfl)
       .exact k Z .aO ((M.R J).R W) (by rw[en];rfl)
      .let W:=Y.1;apply(_,Á,_,Á,a0 Æu (λhn=>⟨_,Á,_,Á,oG ?_⟩))
       .simp at hn;let en:eI line=Β:=by
         ext eI;rw[O];show(if a=JM.kq then _ else none)=Β;rw[ah (show a=JM.kq from hd),show JM.vK=yV.M codes from rfl];cases e:bV Éa b with
         |none=>rfl
         |some i=>rw[e] at hn;cases hn
        exact k Z .aO ((M.R J).R W) (by rw[en];rfl)
       .simp at hn;obtain⟨i,ei⟩:∃i,bV Éa b=Α i:=by
         cases e:bV Éa b with
         |none=>rw[e] at hn;exact absurd Á hn
         |some i=>simp
        let en:eI line=Α (i,l):=by
         ext eI;rw[O];show(if a=JM.kq then _ else none)=_;rw[ah (show a=JM.kq from hd),z,show JM.vK=yV.M codes from rfl,ei]
        apply(_,Á,_,Á,(by show 2<=sizeLine;decide),λt ht=>?_);let s5:=(M.R J).R W;apply k _ (.ref t) (fc s5 (s5.free ht)) ?_;rw[en];apply(t,p4,Á,s5.free ht,(M.R J).free Y.2.1,?_,?_)
        .rw[aq,ei];rfl
        .rw[az (eQ Y.2.2 ht)];exact Y.2.2
end
inductive Told where
 |side (s:Nat) (l:LI)
 |hoist (k:Nat)
 |shape (k:Nat)
 |row (l:LI)
def Told.sort:Told->Nat
 |.side _ _=>0
 |.hoist _=>1
 |.shape _=>2
 |.row _=>3
def lD(line:LI):Option Told:=match eI line with
 |some x=>some (.side x.1 x.2)
 |none=>match bV JM.iI line with
  |some k=>some (.hoist k)
  |none=>match bV JM.iJ line with
   |some k=>some (.shape k)
   |none=>(ly line).M .row
def AQ(H H':Hp):Told->V->Prop
 |.side s l,v=>∃t c,v=.ref t/\H c=Β/\H' t=Α (.tup [.int (s:Nat),.ref c])/\H' c=Α Œ
 |.hoist k,v=>v=.int (k:Nat)
 |.shape k,v=>v=.int (k:Nat)
 |.row l,v=>∃c,v=.ref c/\H c=Β/\H' c=Α Œ
def aih(H H':Hp):Option Told->V->Prop
 |none,v=>v=.aO
 |some t,v=>∃q y,v=.ref q/\H q=Β/\H' q=Α (.tup [.int (t.sort:Nat),y])/\AQ H H' t y
inductive VL(K:FR)(vs:ay)(H:Hp)(Q:VK)(E':XK):Prop
 |mk (ap:Addr) (line:LI) (_:vs=[.ref ap]) (_:ä ap Æo) (_:line.L<=100000) (_:∀H' v,ai H H'->aih H H' (lD line) v->Q v H')
def VM:LS:=["hoist","hoist above","hoist below","hoist above below"]
def VN:LS:=["square","tails","long","shape?"]
theorem AQ.same(h:AQ H H1 t v)(s:ai H1 H2):AQ H H2 t v:=by
 cases t with
 |side a l=>let(t,c,j,h2,q,z):=h;exact(t,c,j,h2,s _ _ q,s _ _ z)
 |hoist k=>exact h
 |shape k=>exact h
 |row l=>let(c,j,h2,q):=h;exact(c,j,h2,s _ _ q)
def aii(F:AN H H' (eI line) v0)(J:LstAt H H' (ly line) v3)(q:[v0,oI ņ,oI Ņ,v3][i]? =Α x) (O:x≠ .aO) (hb:∀j y,j<i->[v0,oI ņ,oI Ņ,v3][j]? =Α y->y=.aO):
  ∃t,lD line=Α t/\t.sort=i/\AQ H H' t x:=by
 let U:v0=.aO->eI line=Β:=λz=>by
  cases e:eI line with
  |none=>rfl
  |some p=>
   rw[e] at F;let(t,c,M,_):=F;symm
 let W:∀o:Option Nat,oI o=.aO->o=Β:=λo z=>by
  cases o with
  |none=>rfl
  |some k=>cases z
 match i,q with
 |0,q=>
  let ex:=aQ q;subst ex;cases e:eI line with
  |none=>rw[e] at F;exact absurd F O
  |some p=>
   rw[e] at F;let(t,c,M,h2,J,Y,h5):=F;refine⟨.side p.1 p.2,by ext lD;rw[e],rfl,t,c,M,J,Y,h5⟩
 |1,q=>
  let ex:=aQ q;let Z:=U Çh;cases e:bV JM.iI line with
  |none=>rw[e] at ex;exact absurd ex.symm O
  |some k=>
   rw[e] at ex;exact(.hoist k,by ext lD;rw[Z,e],rfl,ex.symm)
 |2,q=>
  let ex:=aQ q;let Z:=U Çh;let z1:=W _ (hb 1 _ Å rfl);cases e:bV JM.iJ line with
  |none=>rw[e] at ex;exact absurd ex.symm O
  |some k=>
   rw[e] at ex;exact(.shape k,by ext lD;rw[Z,z1,e],rfl,ex.symm)
 |3,q=>
  let ex:=aQ q;subst ex;let Z:=U Çh;let z1:=W _ (hb 1 _ Å rfl);let z2:=W _ (hb 2 _ Å rfl);cases e:ly line with
  |none=>rw[e] at J;exact absurd J O
  |some l=>
   rw[e] at J;let(c,M,h2,Y):=J;exact(.row l,by ext lD;rw[Z,z1,z2,e];rfl,rfl,c,M,h2,Y)
 |i+4,q=>simp at q
def aij(z:AN H H' (eI line) v0)(F:LstAt H H' (ly line) v3)(q:∀j y,j<4->[v0,oI ņ,oI Ņ,v3][j]? =Α y->y=.aO):lD line=Β:=by
 let O:=q 0 v0 Å rfl;let Z:=q 1 _ Å rfl;let J:=q 2 _ Å rfl;let U:=q 3 v3 Å rfl;ext lD;cases e:eI line with
 |some p=>
  rw[e] at z;let(t,c,M,_):=z;symm
 |none=>
  cases e1:bV JM.iI line with
  |some k=>rw[e1] at Z;cases Z
  |none=>
   cases e2:bV JM.iJ line with
   |some k=>rw[e2] at J;cases J
   |none=>
    cases e3:ly line with
    |some l=>
     rw[e3] at F;let(c,M,_):=F;symm
    |none=>rfl
theorem AN.same(h:AN H H1 o v)(j:ai H0 H)(s:ai H1 H2):AN H0 H2 o v:=by
 cases o with
 |none=>exact h
 |some p=>let(t,c,q,h2,z,F,J):=h;exact(t,c,q,j.free h2,j.free z,s _ _ F,s _ _ J)
theorem LstAt.same(h:LstAt H H1 o v)(z:ai H0 H)(s:ai H1 H2):LstAt H0 H2 o v:=by
 cases o with
 |none=>exact h
 |some p=>let(c,j,h2,q):=h;exact(c,j,z.free h2,s _ _ q)
section
variable{P:Pg}{w:Wd}{K:FR}{mg:MG}{base:Heap}
def Nu:bC ["line","readings","sort","told"] ["line"] (ba Ml):=cg
def aik(F:br K "read_line" "read_line" Ml f fd)(tE:mg "enumerate"=Β)(cH:Tn K mg "HOIST_LINES" (VM.M V.str))(cS:Tn K mg "SEEN_SHAPES" (VN.M V.str))(dS:Ç 4 "read_side" ["line"] (VJ K)) (dA:Ç 2 "place_among" ["words","part"] (GU K)) (dR:Ç 3 "read_row" ["line"] (VI K)):
  aZ P w K mg base aE 5 f fd ["line"] (VL K):=by
 let(aH,mH,hH):=cH;let(aS,mS,hS):=cS;refine F.ok Nu Â;let(ap,line,rfl,U,hl,k):=h;let ub:eS 2 _:=hr.mono Ñ;let Nv:eS 3 _:=hr.mono Ñ;refine⟨_,aB (cf 1 Nu.nd (rX (ae (bx (hr:=hr) dS õ)
   (ae (bx (hr:=ub) dA (ae (vp (v:=.ref aH) Ð mH rfl) õ))
   (ae (bx (hr:=ub) dA (ae (vp (v:=.ref aS) Ð mS rfl) õ))
   (ae (bx (hr:=Nv) dR õ) af))))))
  (aB (Į (UV Ð tE Ĺ) (iA 2 3 Nu.nd)
   (aA (dj (pH (Ka ö)) (aA (aV (rX (ae å ĳ)))) dQ)))
  ϋ),?_⟩
 apply(_,Á,ap,line,Á,U,hl,λH1 M s1 h0=>?_);apply(_,Á,aH,ap,VM,line,Á,hH H1,by decide,s1.seq U,λH2 s2=>?_);let fA:=s1.R s2;apply(_,Á,aS,ap,VN,line,Á,hS H2,by decide,fA.seq U,λH3 s3=>?_);let W:=fA.R s3;apply(_,Á,ap,line,Á,W.seq U,hl,λZ O s4 h3=>?_);let mf:=W.R s4;apply((by show 4<=sizeLine;decide),λtt VO=>?_);let s5:=fc (o:=.tup [M,oI ņ,oI Ņ,O]) mf (mf.free VO);let sl:∀{H':Hp},ai (upd Z tt (.tup [M,oI ņ,oI Ņ,O])) H'->ai Z H':=λz=>(aG VO).R z;refine⟨_,Á,tt,[M,oI ņ,oI Ņ,O],Á,bw.of aq,UW (K:=K) (a:=tt) (xs:=[M,oI ņ,oI Ņ,O])
  (λi σ H'=>∃u2 u3:Option V,σ=[some Én,some (.ref tt),u2,u3]/\ai (upd Z tt (.tup [M,oI ņ,oI Ņ,O])) H'/\∀j y,j<i->[M,oI ņ,oI Ņ,O][j]? =Α y->y=.aO)
  ⟨none,none,rfl,ai.refl _,λj y hj _=>absurd hj Å⟩ (λi σ H' _ ⟨_,_,_,J,_⟩=>ai.tup J (bw.of aq)) ?_ ?_⟩
 .rintro i x T σ H' hi ⟨u2,u3,rfl,J,hb⟩ hT;let Y:=fc (o:=.tup [.int (i:Nat),x]) J (J.free hT);refine⟨T,_,Á,bw.of aq,Á,_,_,Á,_,_,Á,Á,_,Á,_,Á,a0 Ï Ï⟩
  .simp at hc;apply(_,Á,_,Á,(by show 2<=sizeLine;decide),λq hq=>?_);let s8:=fc (o:=.tup [.int (i:Nat),x]) Y (Y.free hq);let s9:=s5.R s8;let(t,et,es,ta):=aii (h0.E ſ (((s2.R s3).R s4).R (sl s8))) (h3.E W (sl s8)) hi hc hb;apply k _ Åt s9 ?_;rw[et];apply(q,x,Á,(s5.R Y).free hq,?_,ta);rw[aq,es]
  .simp at hc;apply(_,_,Á,Y,λj y hj hy=>?_);grind
 .rintro σ H' ⟨u2,u3,rfl,J,hb⟩;let en:=aij (h0.E ſ (((s2.R s3).R s4).R (sl J))) (h3.E W (sl J)) hb;exact k H' .aO (s5.R J) (by rw[en];rfl)
end
def ml(m:eV):Bool:=match m.ao.getLast? with
 |some g=>g.flags.isEmpty
 |none=>false
def kG(m:eV):Bool:=match m.ao.getLast? with
 |some g=>(match g.flags.getLast? with
  |some s=>decide (s.2.L<16)
  |none=>false)
 |none=>false
def qW(m:eV):Bool:=!m.ao.isEmpty&&(!ml m&& !kG m)
def eC(m:eV)(k:Nat):Bool:=
 if (m.classes.isEmpty||decide (k=0))=true then m.classes.isEmpty&&decide (k=0)
 else if (decide (k=3)||kG m)=true then decide (k=3)&&kG m
 else if decide (k=1)=true then decide (m.ao.L<4)&& !ml m
 else match m.ao.getLast? with
  |some g=>decide (g.flags.L<8)
  |none=>false
inductive qX(C:Cs)(b:eV->Bool)(vs:ay)(H:Hp)(Q:VK)(E':XK):Prop
 |mk (p:dZ) (_:vs=[.ref p.a]) (_:Lies H Áx) (_:∀H',ai H H'->Q (.bl (b p.m)) H')
def qX.len:∀vs H Q E,qX C b vs H Q E->vs.L=(["plate"]:LS).L:=λvs H Q E h=>by
 let(p,rfl,_):=h;rfl
def ail(h:m.ao=[]):ml m=false:=by ext ml;rw[h];rfl
def VQ{p:dZ}{gs:List cz}{g:cz}(h:p.ao=gs++[g]):ml p.m=g.flags.isEmpty:=by
 ext ml dZ.m;rw[h,bH,a7,mJ,B0,JO];show(g.flags.M eB.m).isEmpty=_;simp
def aim(h:m.ao=[]):kG m=false:=by ext kG;rw[h];rfl
def ain{p:dZ}{gs:List cz}{g:cz}(h:p.ao=gs++[g])(j:g.flags=[]):kG p.m=false:=by
 ext kG dZ.m;rw[h,bH,a7,mJ,B0,JO];show(match (g.flags.M eB.m).getLast? with
  |some s=>decide (s.2.L<16)
  |none=>false)=_
 symm
def aio{p:dZ}{gs:List cz}{g:cz}{ss:List eB}{s:eB}(h:p.ao=gs++[g])(j:g.flags=ss++[s]):kG p.m=decide (s.cells.L<16):=by
 ext kG dZ.m;rw[h,bH,a7,mJ,B0,JO];show(match (g.flags.M eB.m).getLast? with
  |some s=>decide (s.2.L<16)
  |none=>false)=_
 rw[j,bH,a7,mJ,B0,JO];rfl
section
variable{P:Pg}{w:Wd}{K:FR}{mg:MG}{base:Heap}{C:Cs}
def aip:bC ["plate"] ["plate"] (ba Mp):=cg
def aiq(F:br K "lacks_flags" "lacks_flags" Mp f fd)(T:lx K C):Ë 1 f fd ["plate"] (qX C ml):=by
 refine F.ok aip Â;let(p,rfl,L,k):=h;refine⟨_,aA (aV (vq (j7 Ãl ĺ Ĩ (bU _))
  (rS (j7 ť ĭ Ĩ (bU _))))),?_⟩
 apply(_,Á,ů Äx ⟨di _,λe1 W=>?_⟩);let j:ai H Åy:=aG W;apply(p.gl,e1,_,Á,Á,aa.of (j _ _ L.gl),aa.of aq,_,Á,?_);rcases qU p.ao with e|⟨gs,g,e⟩
 .rw[e];apply oG ?_;let q:=k _ j;rw[ail (by ext dZ.m;rw[e];rfl)] at q;exact q
 .let M:g∈p.ao:=by rw[e];simp
  let z:=L.E j;let ne:(!(p.ao.M λg=>V.ref g.a).isEmpty)=true:=by rw[e,bH];simp
  rw[ne];apply lp ⟨_,Á,aY z.pl T.cP T.m8 Äx ⟨_,Á,p.gl,_,_,V.ref g.a,Á,Á,aa.of z.gl,?_,aY ((z.sub M).ga) T.cG T.vM (vL g) ⟨di _,λU Y=>?_⟩⟩⟩
  .rw[e,bH];exact wX _ _
  .let O:=fc (o:=.lst []) j (j.free Y);let J:=L.E O;apply(g.l,U,_,Á,Á,aa.of (J.sub M).fl,aa.of aq,?_);let q:=k _ O;rw[VQ e] at q;symm
def ais:bC ["plate"] ["plate"] (ba Mq):=cg
def ait(F:br K "lacks_cells" "lacks_cells" Mq f fd)(T:lx K C)(tL:mg "len"=Β)(cC:Cn mg "CELLS" (.int 16))(dF:Ç 1 "lacks_flags" ["plate"] (qX C ml)):
  aZ P w K mg base aE 2 f fd ["plate"] (qX C kG):=by
 refine F.ok ais Â;let(p,rfl,L,k):=h;refine⟨_,aB (dj (PW.pt (pw_or (cw ť ĺ Ĩ (bU _)) (pw_or1 (jh (bx dF õ))))) ϫ dQ)
  (aA (aV (j7 yz (c8 gv Ð tL PySem.boot_len (ae (aX (cJ c9 ĭ Âg Ö) rfl) af)) (cu cC) (bU _)))),?_⟩
 apply(_,Á,ů Äx ⟨di _,λe1 n1=>?_⟩);let U:ai H Åy:=aG n1;let Y:=L.E U;apply(p.gl,e1,_,Á,Á,aa.of Y.gl,aa.of aq,_,Á,?_);rcases qU p.ao with e|⟨gs,g,e⟩
 .rw[e];apply lp ?_;let q:=k _ U;rw[aim (by ext dZ.m;rw[e];rfl)] at q;exact q
 .let M:g∈p.ao:=by rw[e];simp
  let ne:(p.ao.M λg=>V.ref g.a).isEmpty=false:=by rw[e,bH];simp
  rw[ne];refine oG ⟨_,Á,p,Á,Y,λZ s2=>Ę⟩;let W:=U.R s2;let J:=L.E W;rw[VQ e];rcases qU g.flags with j|⟨ss,sg,j⟩
  .rw[j];apply lp ?_;let q:=k _ W;rw[ain e j] at q;exact q
  .let hs:sg∈g.flags:=by rw[j];simp
   let O:g.flags.isEmpty=false:=by rw[j];simp
   rw[O];apply oG ⟨_,Á,aY J.pl T.cP T.m8 Äx ⟨_,Á,p.gl,_,_,V.ref g.a,Á,Á,aa.of J.gl,?_,aY ((J.sub M).ga) T.cG T.vM (vL g) ⟨_,Á,g.l,_,_,V.ref sg.a,Á,Á,aa.of (J.sub M).fl,?_,aY (((J.sub M).AM hs).sa) T.cS T.DE (DC sg) ⟨sg.l,_,Á,.inl (aa.of ((J.sub M).AM hs).sl),_,_,Á,Á,?_⟩⟩⟩⟩
   .rw[e,bH];exact wX _ _
   .rw[j,bH];exact wX _ _
   .let q:=k _ W;rw[aio e j] at q;show Q (V.bl (decide ((((iv sg.cells).L:Nat):Int)<16))) Z;rw[dw,show decide (((sg.cells.L:Nat):Int)<16)=decide (sg.cells.L<16) by
     by_cases z:sg.cells.L<16
     .rw[eP z,eP Î]
     .rw[gC z,gC (by omega)]]
    exact q
def aiu:bC ["plate"] ["plate"] (ba Mr):=cg
def aiv(F:br K "has_whole_hoists" "has_whole_hoists" Mr f fd)(T:lx K C)(J:Ç 1 "lacks_flags" ["plate"] (qX C ml))(z:Ç 2 "lacks_cells" ["plate"] (qX C kG)):
  aZ P w K mg base aE 3 f fd ["plate"] (qX C qW):=by
 refine F.ok aiu Â;let(p,rfl,L,k):=h;refine⟨_,aA (aV (vq (j7 Ãl ĺ Ĩ (bU _))
  (vq (Ck (bx J õ)) (rS (Ck (bx z õ)))))),?_⟩
 apply(_,Á,ů Äx ⟨di _,λe1 M=>?_⟩);let s1:ai H Åy:=aG M;let j:=L.E s1;apply(p.gl,e1,_,Á,Á,aa.of j.gl,aa.of aq,_,Á,?_);let Y:p.m.ao.isEmpty=p.ao.isEmpty:=by ext dZ.m;cases p.ao <;> rfl
 rw[show(p.ao.M λg=>V.ref g.a).isEmpty=p.ao.isEmpty by simp];refine a0 Ï Ï
 .refine⟨_,Á,p,Á,j,λU s2=>⟨_,Á,_,Á,a0 ģ ģ⟩⟩
  .refine⟨_,Á,p,Á,j.E s2,λW O=>Ę⟩;let q:=k _ ((s1.R s2).R O);delta qW at q;lia
  .let q:=k _ Áo;delta qW at q;symm
 .let q:=k _ s1;delta qW at q;symm
inductive VR(C:Cs)(vs:ay)(H:Hp)(Q:VK)(E':XK):Prop
 |mk (p:dZ) (n:Nat) (_:vs=[.ref p.a,.int (n:Nat)]) (_:Lies H Áx) (_:∀H',ai H H'->Q (.bl (eC p.m n)) H')
def aiw:bC ["plate","sort"] ["plate","sort"] (ba Mo):=cg
def G2(a b:Nat):decide (V.int (a:Nat)=V.int (b:Nat))=decide (a=b):=by
 grind
def dec_lt(a b:Nat):decide (((a:Nat):Int)<((b:Nat):Int))=decide (a<b):=by
 simp
def aix(F:br K "may_stand" "may_stand" Mo f fd)(T:lx K C)(tL:mg "len"=Β)(c0:Cn mg "SIDE_LINE" œ)(c1:Cn mg "HOIST_LINE" Ŝ)(c3:Cn mg "CELLS_LINE" (.int 3))(cH:Cn mg "MOST_HOISTS" (.int 4))(cF:Cn mg "MOST_FLAGS" Éo)(dF:Ç 1 "lacks_flags" ["plate"] (qX C ml)) (dC:Ç 2 "lacks_cells" ["plate"] (qX C kG)):
  aZ P w K mg base aE 3 f fd ["plate","sort"] (VR C):=by
 refine F.ok aiw Â;let(p,n,rfl,L,k):=h;refine⟨_,aB (dj (PW.pt (pw_or (cw ť ĺ Ĩ (bU _)) (pw_or1 (cw iB á (cu c0) (bU _)))))
   (aA (aV (vq (j7 ť ÿ Ĩ (bU _)) (rS (j7 iB á (cu c0) (bU _)))))) dQ)
  (aB (dj (PW.pt (pw_or (cw iB á (cu c3) (bU _)) (pw_or1 (jh (bx dC õ)))))
   (aA (aV (vq (j7 iB á (cu c3) (bU _)) (rS (bx dC õ))))) dQ)
  (aB (dj (cw iB á (cu c1) (bU _))
   (aA (aV (vq (j7 yz (c8 gv Ð tL PySem.boot_len Ãi) (cu cH) (bU _)) (rS (Ck (bx dF õ)))))) dQ)
  (aA (aV (vq (j7 Ãl ÿ Ĩ (bU _)) (rS (j7 yz (c8 gv Ð tL PySem.boot_len (ae ĭ af)) (cu cF) (bU _)))))))),?_⟩
 let ec:p.m.classes.isEmpty=(iv p.classes).isEmpty:=by ext dZ.m iv;cases p.classes <;> rfl
 apply(_,Á,aY L.pl T.cP T.DF (GW p) ⟨di _,λe1 n1=>?_⟩);let s1:ai H Åy:=aG n1;let Z:=L.E s1;apply(p.cl,e1,_,Á,Á,aa.of Z.cl,aa.of aq,_,Á,?_);rw[<-ec];let first:∀H1,ai H H1->(p.m.classes.isEmpty||decide (n=0))=true->Co (Kc (bQ (U0 K) (fj K Ų "classes") (Am dq)) (bQ pL ž Är)) {nx:=λ_ H'=>Q .aO H',rt:=Q} [some ϭ,some (.int (n:Nat))] H1:=λH1 z hc=>by
  let M1:=L.E z;apply(_,Á,aY M1.pl T.cP T.DF (GW p) ⟨di _,λe2 n2=>?_⟩);let t2:=fc (o:=.lst []) z (z.free n2);apply(p.cl,e2,_,Á,Á,aa.of (L.E t2).cl,aa.of aq,_,Á,?_);rw[<-ec];let q:=k _ t2;delta eC at q;rw[ah hc] at q;refine a0 ģ ģ
  .apply(_,Á,Á,?_);symm
  .symm
 refine a0 (λhc=>first _ s1 Å) Ï;let hc:p.m.classes.isEmpty=false:=À hc
 refine ŷ;rw[show V.int 0=V.int ((0:Nat):Int) from rfl,G2];refine a0 (λhd=>first _ s1 Å) ģ;let hd:decide (n=0)=false:=À hd
 let M:∀H1,ai H H1->(decide (n=3)||kG p.m)=true->Co (Kc (bQ pL ž (tC (.int 3))) (g8 (qX C kG) [] E0 (a9 Ų dq))) {nx:=λ_ H'=>Q .aO H',rt:=Q} [some ϭ,some (.int (n:Nat))] H1:=λH1 z h2=>by
  refine ŷ;rw[show V.int 3=V.int ((3:Nat):Int) from rfl,G2];apply a0 (λj=>⟨_,Á,p,Á,L.E z,λH2 t2=>?_⟩) (λj=>?_)
  .let q:=k _ (z.R t2);delta eC at q;symm
  .simp at j;let q:=k _ z;delta eC at q;symm
 refine ŷ;rw[show V.int 3=V.int ((3:Nat):Int) from rfl,G2];apply a0 (λj=>M _ s1 Å) (λj=>⟨_,Á,p,Á,Z,λH2 s2=>⟨_,Á,a0 (λW=>M _ Áo Å) (λW=>?_)⟩⟩);let j:decide (n=3)=false:=À j
 simp at W;let U:=s1.R s2;let b7:∀H',ai H H'->Q (.bl (if decide (n=1)=true then decide (p.m.ao.L<4)&& !ml p.m else match p.m.ao.getLast? with
  |some g=>decide (g.flags.L<8)
  |none=>false)) H':=λH' t=>by
  let q:=k _ t;delta eC at q;rw[hc,hd,Bool.or_self,ag eN,j,W,Bool.or_self,ag eN] at q;exact q
 let O:=L.E U;refine ŷ;rw[show V.int 1=V.int ((1:Nat):Int) from rfl,G2];refine a0 ū ū
 .apply(_,Á,aY O.pl T.cP T.m8 Äx ⟨p.gl,_,Á,.inl (aa.of O.gl),_,_,Á,Á,_,Á,?_⟩);let e4:decide ((((p.ao.M λg=>V.ref g.a).L:Nat):Int)<4)=decide (p.m.ao.L<4):=by
   rw[show(4:Int)=((4:Nat):Int) from rfl,dec_lt];ext dZ.m;simp
  rw[e4];apply a0 (λh5=>⟨_,Á,p,Á,O,λH3 s4=>Ę⟩) (λh5=>?_)
  .let q:=b7 _ (U.R s4);symm
  .symm
 .apply(_,Á,aY O.pl T.cP T.m8 Äx ⟨di _,λe5 n5=>?_⟩);let Y:=fc (o:=.lst []) U (U.free n5);let J:=L.E Y;apply(p.gl,e5,_,Á,Á,aa.of J.gl,aa.of aq,_,Á,?_);rcases qU p.ao with e|⟨gs,g,e⟩
  .rw[e];apply oG ?_;let q:=b7 _ Y;rw[ag h1,show p.m.ao=[] by ext dZ.m;rw[e];rfl] at q;symm
  .let hg:g∈p.ao:=by rw[e];simp
   let ne:(!(p.ao.M λg=>V.ref g.a).isEmpty)=true:=by rw[e,bH];simp
   rw[ne];apply lp ⟨_,Á,aY J.pl T.cP T.m8 Äx ⟨_,Á,p.gl,_,_,V.ref g.a,Á,Á,aa.of J.gl,?_,aY ((J.sub hg).ga) T.cG T.vM (vL g) ⟨g.l,_,Á,.inl (aa.of (J.sub hg).fl),_,_,Á,Á,?_⟩⟩⟩
   .rw[e,bH];exact wX _ _
   .let q:=b7 _ Y;let eg:p.m.ao.getLast?=Α g.m:=by
     ext dZ.m;symm
    rw[ag h1,eg] at q;show Q (V.bl (decide ((((g.flags.M λs=>V.ref s.a).L:Nat):Int)<((8:Nat):Int)))) _;rw[dec_lt,ak];let e6:g.m.flags.L=g.flags.L:=by ext cz.m;simp only[ak]
    symm
end
def sy(m:eV):Told->eV
 |.side s l=>⟨s,l,m.ao⟩
 |.hoist k=>⟨m.side,m.classes,m.ao++[⟨decide (k%2=1),decide (k/2=1),[]⟩]⟩
 |.shape k=>⟨m.side,m.classes,m.ao.dropLast++(m.ao.getLast?.M λg=>(⟨g.above,g.below,g.flags++[(k,[])]⟩:iV)).toList⟩
 |.row l=>⟨m.side,m.classes,m.ao.dropLast++(m.ao.getLast?.M λg=>(⟨g.above,g.below,g.flags.dropLast++(g.flags.getLast?.M λs=>(s.1,s.2++l)).toList⟩:iV)).toList⟩
structure Rep(C:Cs)(H:Hp)(p:dZ):Prop where
 lies:Lies H Áx
 nd:((eY C p).M (·.1)).Nodup
def VS(h:eC m 1=true):m.ao.L<4:=by
 delta eC at h;symm
def aiy{m:eV}(h:eC m 2=true):∃g,m.ao.getLast?=Α g/\g.flags.L<8:=by
 delta eC at h;split at h
 .simp at h
 .split at h
  .simp at h
  .split at h
   .rename_i z;exact absurd z Ñ
   .split at h
    .rename_i g e;exact(g,e,À h)
    .cases h
def aiz{m:eV}(h:eC m 3=true):∃g s,m.ao.getLast?=Α g/\g.flags.getLast?=Α s/\s.2.L<16:=by
 delta eC at h;split at h
 .simp at h
 .split at h
  .simp at h;delta kG at h;split at h
   .rename_i g e;split at h
    .rename_i s j;exact(g,s,e,j,À h)
    .cases h
   .cases h
  .rename_i q h2;exact absurd Ä h2
def Nw{α β:Type}{f:α->β}{l:List α}{y:β}(h:(l.M f).getLast?=Α y):∃r x,l=r++[x]/\f x=y:=by
 rcases qU l with e|⟨r,x,e⟩
 .rw[e] at h;cases h
 .apply(r,x,e,?_);rw[e,bH,a7,mJ,B0,JO] at h;exact aQ h
inductive VT(C:Cs)(vs:ay)(H:Hp)(Q:VK)(E':XK):Prop
 |mk (p:dZ) (t:Told) (v:V) (H0:Hp) (_:vs=[.ref p.a,.int (t.sort:Nat),v]) (_:Rep C H p) (_:ai H0 H) (_:Lies H0 Áx) (_:AQ H0 H t v) (_:(∀l,t=.row l->l.L=4)) (_:eC p.m t.sort=true) (_:∀H' p',p'.a=p.a->p'.m=sy p.m t->Rep C H' p'->(∀b o,H b=Α o->b∉(eY C p).M (·.1)->H' b=Α o)->(∀b,b∈(eY C p').M (·.1)->b∈(eY C p).M (·.1)\/H0 b=Β)->Q .aO H')
def aiA(h:Lies H ns)(j:b∈ns.M (·.1)):∃o,H b=Α o:=by
 let(x,q,rfl):=bG.mp j;exact(_,h x q)
def DG(h:Lies H ns)(j:H b=Β):b∉ns.M (·.1):=λz=>by
 let(o,e):=aiA h z;symm
def Ny(L:Lies H (A++(b,o)::B))(nd:((A++(b,o)::B).M (·.1)).Nodup)(keep:∀c u,H c=Α u->c≠b->H2 c=Α u)(O:H2 b=Α o')(q:Lies H2 N):
  Lies H2 (A++(b,o')::(B++N)):=λx j=>by
 rw[bH,a7] at nd;let(U,F,J):=RO.mp nd;let(M,W):=kY.mp F;rcases fu.mp j with j|j
 .exact keep _ _ (L x (wD _ j)) (J x.1 (bG.mpr ⟨x,j,Á⟩) b eO)
 .rcases a8.mp j with rfl|j
  .omega
  .rcases fu.mp j with j|j
   .exact keep _ _ (L x (rG _ (aK _ j))) λz=>M (by grind)
   .exact q x j
def Nz{A B N:List Nd}{b:Addr}{o O:HO}(nd:((A++(b,o)::B).M (·.1)).Nodup)(j:(N.M (·.1)).Nodup)(hd:∀c,c∈N.M (·.1)->c∉(A++(b,o)::B).M (·.1)):((A++(b,O)::(B++N)).M (·.1)).Nodup:=by
 let e:(A++(b,O)::(B++N)).M (·.1)=(A++(b,o)::B).M (·.1)++N.M (·.1):=by simp
 rw[e];exact RO.mpr ⟨nd,j,λx q y F z=>hd y F (by rw[<-z];exact q)⟩
def NA{A B N:List Nd}{b:Addr}{o O:HO}{c:Addr}(h:c∈(A++(b,O)::(B++N)).M (·.1)):c∈(A++(b,o)::B).M (·.1)\/c∈N.M (·.1):=by
 grind
def VU{gs:List cz}{g g':cz}(h:g.a=g'.a):((gs++[g]).M λg=>V.ref g.a)=(gs++[g']).M λg=>V.ref g.a:=by
 symm
def aiB{ss:List eB}{s s':eB}(h:s.a=s'.a):((ss++[s]).M λs=>V.ref s.a)=(ss++[s']).M λs=>V.ref s.a:=by
 symm
section
variable{P:Pg}{w:Wd}{K:FR}{mg:MG}{base:Heap}{C:Cs}
def aiC:bC ["plate","sort","told"] ["plate","sort","told"] (ba Ms):=cg
def aiD(k:Nat):decide (V.int (((k:Nat):Int)%2)=V.int 1)=decide (k%2=1):=by
 grind
def aiE(k:Nat):decide (V.int (((k:Nat):Int)/2)=V.int 1)=decide (k/2=1):=by
 grind
def aiF{f:Addr}{fd:FD}(F:br K "put" "put" Ms f fd)(T:lx K C)(c0:Cn mg "SIDE_LINE" œ)(c1:Cn mg "HOIST_LINE" Ŝ)(c2:Cn mg "SHAPE_LINE" (.int 2))(dG:Ā "Glimpse" C.G ["above","below","flags"]) (dS:Ā "Sighting" C.S ["shape","cells"]):Ë 3 f fd ["plate","sort","told"] (VT C):=by
 refine F.ok aiC Â;let(p,t,v,H0,rfl,R,s0,L0,ta,h4,W,k):=h;refine⟨_,aA (dj (cw iB á (cu c0) (bU _))
   (aB (fk Ø (cJ Ao å bc Ö) rfl) (aA (fk Ø (cJ Ao å bc Ö) rfl)))
  (aA (dj (cw iB á (cu c1) (bU _))
   (aA (pI (Ü ÿ (ae (pV dG hr
    (ae (j7 iB (d9 Kl å bc) bc (bU _)) (ae (j7 iB (d9 ac9 å bc) bc (bU _)) Åg))) af))))
  (aA (dj (cw iB á (cu c2) (bU _))
   (aA (pI (Ü ĭ (ae (pV dS hr
    (ae å Åg)) af))))
   (aA (pI (ó (aX (cJ c9 ĭ Âg Ö) rfl) ł)))))))),?_⟩
 let L:=R.lies;cases t with
 |side sd l=>
  let(tt,c,rfl,G3,ht,hc):=ta;refine ϵ;apply(_,Á,tt,_,0,_,Á,Á,bw.of ht,Á,_,Á,p.a,C.P,p.dx,_,Á,L.pl,T.cP,T.Nr,(by show 3<1000;decide),?_);let nta:=Sm ht L.pl Ä;apply(_,Á,tt,_,1,_,Á,Á,bw.of (by rw[az nta];exact ht),Á,_,Á,p.a,C.P,p.dx,_,Á,aq,T.cP,T.DF,?_,?_)
  .exact qy (Kw _ _ _) (by show 4<1000;decide)
  .let VV:=DG L0 G3;let AR:p.a∈(eY C p).M (·.1):=by ext eY;simp
   let G4:c≠p.a:=λz=>VV Å;let nd:=R.nd;let VW:=(kY.mp nd);let NC:=(kY.mp VW.2);let sub:∀b,b∈((p.gl,HO.lst (p.ao.M λg=>V.ref g.a))::p.ao.flatMap Æh).M (·.1)->b∈(eY C p).M (·.1):=λb hb=>aK _ (aK _ hb);apply k _ {p with cl:=c,side:=sd,classes:=l} Á Á ⟨λx hx=>?_,?_⟩ Ãc ē
   .let hx:x∈(p.a,HO.ins C.P p.dx (nR {p with cl:=c,side:=sd,classes:=l}))::(c,HO.lst (iv l))::((p.gl,HO.lst (p.ao.M λg=>V.ref g.a))::p.ao.flatMap Æh):=hx;rcases a8.mp hx with rfl|hx
    .rw[aq];rfl
    .rcases a8.mp hx with rfl|hx
     .rw[az G4,az G4];omega
     .let lF:x.1≠p.a:=λz=>VW.1 (by grind);rw[az lF,az lF];exact L x (aK _ (aK _ hx))
   .apply kY.mpr ⟨λz=>?_,kY.mpr ⟨λz=>VV (sub c z),NC.2⟩⟩;grind
   .rw[az (λz=>nb Å),az (λz=>nb Å)];omega
   .rcases a8.mp hb with z|z
    .symm
    .grind
 |hoist n=>
  obtain rfl:v=V.int (n:Nat):=ta;let O:=VS W;refine⟨_,Á,Á,_,Á,ite_no (show ¬V.int ((1:Nat):Int)=V.int 0 by decide) ϵ⟩;apply(_,Á,ů Äx ⟨.inl ⟨Á,_,aa.of L.gl⟩,_,Á,_,_,Á,Á,Å,Á,_,Á,_,_,Á,Á,⟨by decide,by decide⟩,Á,di _,λl U=>?_⟩);intro x dx hx gU aL;refine⟨x,dx,_,Á,Á,aq,λH2 h2 k2=>Ţ⟩;let s1:ai H (ϑ ã):=aG U;let Z:=ai.made hx gU k2;let Y:=s1.R Z;let hlx:l≠x:=λz=>by rw[<-z,aq] at hx;cases hx
  let jM:=Z _ _ aq;apply(p.gl,_,_,Á,Á,Y _ _ L.gl,?_,?_)
  .rw[ak];delta dZ.m at O;simp only[ak] at O;exact f7 Î
  .let j:eY C p=[(p.a,.ins C.P p.dx (nR p)),(p.cl,.lst Ř)]++(p.gl,.lst (p.ao.M λg=>V.ref g.a))::p.ao.flatMap Æh:=rfl;let q:eY C {p with ao:=p.ao++[⟨x,dx,l,decide (n%2=1),decide (n/2=1),[]⟩]}=[(p.a,.ins C.P p.dx (nR p)),(p.cl,.lst Ř)]++(p.gl,.lst ((p.ao++[(⟨x,dx,l,decide (n%2=1),decide (n/2=1),[]⟩:cz)]).M λg=>V.ref g.a))::(p.ao.flatMap Æh++[(x,.ins C.G dx (qT ⟨x,dx,l,decide (n%2=1),decide (n/2=1),[]⟩)),(l,.lst [])]):=by
    show(p.a,HO.ins C.P p.dx (nR p))::(p.cl,HO.lst Ř)::(p.gl,_)::(p.ao++[_]).flatMap Æh=_;rw[wH];rfl
   let ND:=DG L Ça;let NF:=DG L U;let G5:p.gl∈(eY C p).M (·.1):=by ext eY;simp
   let NG:x≠p.gl:=λz=>ND Å;let AS:l≠p.gl:=λz=>NF Å;apply k _ {p with ao:=p.ao++[⟨x,dx,l,decide (n%2=1),decide (n/2=1),[]⟩]} Á ?_ Ϧ Ãc ē
   .ext dZ.m sy;rw[bH];rfl
   .rw[q];apply Ny (H:=H) (by assumption) (by rw[<-j];exact R.nd) (λc u e hc=>by rw[az hc];exact Y _ _ e) ?_ Âm
    .rw[aq,bH];rfl
    .rcases a8.mp hy with rfl|hy;rotate_left;obtain rfl:=iS.mp hy;rotate_left
     .rw[az NG,h2];apply b9 (λz=>some (HO.ins C.G dx z)) ?_;rw[aiD,aiE];rfl
     .rw[az AS];omega
   .rw[q];apply Nz (by rw[<-j];exact R.nd) (by grind) (λc hc=>?_);grind
   .rw[az (λz=>nb Å)];exact Y _ _ e
   .rw[q] at hb;rcases NA hb with hb|hb
    .exact .inl hb
    .simp at hb;rcases hb with rfl|rfl
     .exact .inr (s0.free Ça)
     .exact .inr (s0.free U)
 |shape n=>
  obtain rfl:v=V.int (n:Nat):=ta;let(gm,eg,O):=aiy W;let(gs,g,M,rfl):=Nw eg;let J:g∈p.ao:=by rw[M];simp
  refine⟨_,Á,Á,_,Á,ite_no (show ¬V.int ((2:Nat):Int)=V.int 0 by decide) ⟨_,Á,Á,_,Á,ite_no (show ¬V.int ((2:Nat):Int)=V.int 1 by decide) ϵ⟩⟩;apply(_,Á,ů Äx ⟨_,Á,p.gl,_,_,V.ref g.a,Á,Á,aa.of L.gl,?_,aY ((L.sub J).ga) T.cG T.vM (vL g) ⟨.inl ⟨Á,_,aa.of (L.sub J).fl⟩,_,Á,di _,λl U=>?_⟩⟩)
  .rw[M,bH];exact wX _ _
  intro x dx hx gU aL;refine⟨x,dx,_,Á,Á,aq,λH2 h2 k2=>Ţ⟩;let s1:ai H (ϑ ã):=aG U;let Z:=ai.made hx gU k2;let Y:=s1.R Z;let hlx:l≠x:=λz=>by rw[<-z,aq] at hx;cases hx
  let jM:=Z _ _ aq;apply(g.l,_,_,Á,Á,Y _ _ (L.sub J).fl,?_,?_)
  .rw[ak];delta cz.m at O;simp only[ak] at O;exact f7 Î
  .let j:eY C p=((p.a,.ins C.P p.dx (nR p))::(p.cl,.lst Ř)::(p.gl,.lst (p.ao.M λg=>V.ref g.a))::(gs.flatMap Æh++[(g.a,.ins C.G g.dx (qT g))]))++(g.l,.lst (g.flags.M λs=>V.ref s.a))::g.flags.flatMap (gV C):=by
    ext eY;rw[show p.ao.flatMap Æh=gs.flatMap Æh++gW C g by simp_all];ext gW;simp
   let q:eY C {p with ao:=gs++[{g with flags:=g.flags++[⟨x,dx,l,n,[]⟩]}]}=((p.a,.ins C.P p.dx (nR p))::(p.cl,.lst Ř)::(p.gl,.lst (p.ao.M λg=>V.ref g.a))::(gs.flatMap Æh++[(g.a,.ins C.G g.dx (qT g))]))++(g.l,.lst ((g.flags++[(⟨x,dx,l,n,[]⟩:eB)]).M λs=>V.ref s.a))::(g.flags.flatMap (gV C)++[(x,.ins C.S dx (xx ⟨x,dx,l,n,[]⟩)),(l,.lst [])]):=by
    ext eY;rw[wH,M,VU (gs:=gs) (g:=g) (g':={g with flags:=g.flags++[⟨x,dx,l,n,[]⟩]}) rfl];simp[gW,wH,nR,qT,gV,iv]
   let ND:=DG L Ça;let NF:=DG L U;let G5:g.l∈(eY C p).M (·.1):=by rw[j];simp
   let NG:x≠g.l:=λz=>ND Å;let AS:l≠g.l:=λz=>NF Å;apply k _ {p with ao:=gs++[{g with flags:=g.flags++[⟨x,dx,l,n,[]⟩]}]} Á ?_ Ϧ Ãc ē
   .ext dZ.m sy;simp[cz.m,eB.m,M,B0]
   .rw[q];apply Ny (H:=H) (by rw[<-j];exact L) (by rw[<-j];exact R.nd) (λc u e hc=>by rw[az hc];exact Y _ _ e) ?_ Âm
    .rw[aq,bH];rfl
    .rcases a8.mp hy with rfl|hy;rotate_left;obtain rfl:=iS.mp hy;rotate_left
     .rw[az NG,h2];rfl
     .rw[az AS];omega
   .rw[q];apply Nz (by rw[<-j];exact R.nd) (by grind) (λc hc=>?_);simp at hc;rw[<-j];rcases hc with rfl|rfl
    .omega
    .omega
   .rw[az (λz=>nb (by rw[z];exact G5))];exact Y _ _ e
   .rw[q] at hb;rcases NA hb with hb|hb
    .exact .inl (by rw[j];exact hb)
    .simp at hb;rcases hb with rfl|rfl
     .exact .inr (s0.free Ça)
     .exact .inr (s0.free U)
 |row l=>
  let(c,rfl,G3,hc):=ta;let(gm,sm,eg,es,O):=aiz W;let(gs,g,M,rfl):=Nw (show(p.ao.M cz.m).getLast?=Α gm from eg);let(ss,sg,G6,rfl):=Nw (show(g.flags.M eB.m).getLast?=Α sm from es);let J:g∈p.ao:=by rw[M];simp
  let hs:sg∈g.flags:=by rw[G6];simp
  let DH:=h4 l rfl;apply(_,Á,Á,_,Á,ite_no (show ¬V.int ((3:Nat):Int)=V.int 0 by decide) ⟨_,Á,Á,_,Á,ite_no (show ¬V.int ((3:Nat):Int)=V.int 1 by decide) ⟨_,Á,Á,_,Á,ite_no (show ¬V.int ((3:Nat):Int)=V.int 2 by decide) ?_⟩⟩);apply(_,Á,ů Äx ⟨_,Á,p.gl,_,_,V.ref g.a,Á,Á,aa.of L.gl,?_,aY ((L.sub J).ga) T.cG T.vM (vL g) ⟨_,Á,g.l,_,_,V.ref sg.a,Á,Á,aa.of (L.sub J).fl,?_,aY (((L.sub J).AM hs).sa) T.cS T.DE (DC sg) ⟨.inl ⟨Á,_,aa.of ((L.sub J).AM hs).sl⟩,_,Á,sg.l,c,_,_,Á,Á,((L.sub J).AM hs).sl,hc,?_,?_⟩⟩⟩)
  .rw[M,bH];exact wX _ _
  .rw[G6,bH];exact wX _ _
  .let:sg.cells.L<16:=O;rw[dw,dw,DH];exact tm (f7 Î)
  .let j:eY C p=((p.a,.ins C.P p.dx (nR p))::(p.cl,.lst Ř)::(p.gl,.lst (p.ao.M λg=>V.ref g.a))::(gs.flatMap Æh++((g.a,.ins C.G g.dx (qT g))::(g.l,.lst (g.flags.M λs=>V.ref s.a))::(ss.flatMap (gV C)++[(sg.a,.ins C.S sg.dx (xx sg))]))))++(sg.l,.lst (iv sg.cells))::[]:=by
    ext eY;rw[show p.ao.flatMap Æh=gs.flatMap Æh++gW C g by simp_all];ext gW;rw[show g.flags.flatMap (gV C)=ss.flatMap (gV C)++gV C sg by simp_all];simp[gV]
   let q:eY C {p with ao:=gs++[{g with flags:=ss++[{sg with cells:=sg.cells++l}]}]}=((p.a,.ins C.P p.dx (nR p))::(p.cl,.lst Ř)::(p.gl,.lst (p.ao.M λg=>V.ref g.a))::(gs.flatMap Æh++((g.a,.ins C.G g.dx (qT g))::(g.l,.lst (g.flags.M λs=>V.ref s.a))::(ss.flatMap (gV C)++[(sg.a,.ins C.S sg.dx (xx sg))]))))++(sg.l,.lst (iv (sg.cells++l)))::([]++[]):=by
    ext eY;dsimp only;rw[wH,M,VU (gs:=gs) (g:=g) (g':={g with flags:=ss++[{sg with cells:=sg.cells++l}]}) rfl,G6,aiB (ss:=ss) (s:=sg) (s':={sg with cells:=sg.cells++l}) rfl];simp[gW,wH,nR,qT,gV,xx]
   let G5:sg.l∈(eY C p).M (·.1):=by rw[j];simp
   apply k _ {p with ao:=gs++[{g with flags:=ss++[{sg with cells:=sg.cells++l}]}]} Á ?_ Ϧ Ãc ē
   .ext dZ.m sy;dsimp only;simp[cz.m,eB.m,M,G6,B0]
   .rw[q];apply Ny (H:=H) (by rw[<-j];exact L) (by rw[<-j];exact R.nd) (λc u e hc=>by rw[az hc];exact e) ?_ (λy hy=>absurd hy Ä);rw[aq];simp
   .rw[q];exact Nz (by rw[<-j];exact R.nd) Ä Ä
   .rw[az (λz=>nb (by rw[z];exact G5))];omega
   .rw[q] at hb;rcases NA hb with hb|hb
    .exact .inl (by rw[j];exact hb)
    .exact absurd hb Ä
end
def NH(k l:Nat):List (Str×V):=[("kind",.int (k:Nat)),("line",.int (l:Nat))]
structure G7(K:FR)(mg:MG)(C N:Addr):Prop where
 c:XC K C N
 aiI:Ge K N "kind"
 aiJ:Ge K N "line"
 mC:mg "NoPlate"=Α Ĉ
 keep:PySem.W.keepIn K Ĉ=true
inductive NI(C:Addr)(vs:ay)(H:Hp)(Q:VK)(E':XK):Prop
 |mk (x:Addr) (k l:Nat) (_:vs=[.ref x,.int (k:Nat),.int (l:Nat)]) (_:H x=Α Ś) (_:∀H' d,H' x=Α (exc C (some d) .none x)->d≠x->H' d=Α (vG d (NH k l))->(∀b o,H b=Α o->b≠x->H' b=Α o)->Q .aO H')
def VX(P:Pg)(w:Wd)(K:FR)(mg:MG)(base:Heap)(C N:Addr):Prop:=
 ∃f fd,G7 K mg C N/\PySem.W.nsIn K N "__init__"=Α Âr/\PySem.W.isFn K ď=true/\Ë 1 f fd ["self","kind","line"] (NI C)/\L2.Binds K fd ["self","kind","line"] []
section
variable{P:Pg}{w:Wd}{K:FR}{mg:MG}{base:Heap}{C:Cs}{CN N:Addr}
def aiK:typeOf (.type "Exception")=pure (.type "type"):=by rfl
def aiL:bC ["self","kind","line"] ["self","kind","line"] (ba Mi):=cg
def aiM(F:br K "__init__" "NoPlate.__init__" Mi f fd)(T:G7 K mg CN N)(M:mg "Exception"=Β)(J:PySem.W.findCls K (.type "Exception") (.type "type") "__init__"=Α (.val (.builtin "Exception.__init__"))):
  aZ P w K mg base aE 1 f fd ["self","kind","line"] (NI CN):=by
 refine F.ok aiL Â;let(x,n,l,rfl,q,k):=h;apply(_,aB (pI (afJ Ð M J õ aiK É É)) (aB (afM Ø á Á) (aA (afO Ø å Á))),?_);apply(_,Á,x,CN,N,_,_,Á,q,T.c,_,Á,_,Á,x,CN,N,_,Á,q,T.c,T.aiI,λd hd aL=>?_);apply(_,Á,_,Á,x,CN,N,d,_,_,Á,(by rw[az Æc];exact aq),aL,aq,(by show 1<1000;decide),T.c,T.aiJ,?_);apply k _ d (by rw[az Æc,az Æc];exact aq) aL ?_ λb o e z=>?_
 .rw[aq];rfl
 .let j:=eQ e hd;rw[az j,az j,az z];exact e
def nW:Nat->eV->dJ->Except (Nat×Nat) eV
 |_,m,[]=>.ok m
 |i,m,w::r=>match lD w with
  |none=>.error (1,i)
  |some t=>if eC m t.sort=true then nW (i+1) (sy m t) r else .error (2,i)
def ip(j:LI):Except (Nat×Nat) eV:=match nW 0 ⟨0,[],[]⟩ (JM.aN 10 j).dropLast with
 |.error e=>.error e
 |.ok m=>if j=[]\/(JM.aN 10 j).getLastD []≠[] then .error (1,(JM.aN 10 j).dropLast.length) else if qW m=true then .ok m else .error (2,(JM.aN 10 j).dropLast.length)
inductive VZ(K:FR)(C:Cs)(CN:Addr)(vs:ay)(H:Hp)(Q:VK)(E:XK):Prop
 |mk (ap:Addr) (bY:LI) (_:vs=[.ref ap]) (_:ä ap (iv bY)) (_:bY.L<=66000) (_:(∀m,ip bY=.ok m->∀H' p,ai H H'->Lies H' Áx->p.m=m->Q ϭ H')) (_:∀e,ip bY=.error e->∀H' d,ai H H'->H' d=Α (vG d (NH e.1 e.2))->E (.ref CN) (some d) H')
def V0{w l:LI}(h:ly w=Α l):l.L=4:=by
 delta ly at h;split at h
 .rename_i e;delta kC at h;grind
 .cases h
def aiN{w l:LI}(h:lD w=Α (.row l)):l.L=4:=by
 delta lD at h;split at h
 .cases h
 .split at h
  .symm
  .split at h
   .symm
   .cases e:ly w with
    |none=>symm
    |some j=>
     rw[e] at h;let z:=aQ h;injection z with z;subst z;exact V0 e
def drop_cons{α:Type}{l:List α}{i:Nat}{x:α}(h:l[i]? =Α x):l.drop i=x::l.drop (i+1):=by
 let(j,e):=bo.mp h;rw[List.drop_eq_getElem_cons j,e]
theorem eU.get{H:Hp}:∀{j:LA}{L:dJ}{i:Nat}{q:Addr},eU H j L->j[i]? =Α q->∃l,L[i]? =Α l/\H q=Α Œ:=by
 intro j L i q z;induction z generalizing i with
 |nil=>intro h;simp at h
 |cons r t F=>
  intro h;cases i with
  |zero=>
   let e:=aQ h;subst e;exact(_,Á,r)
  |succ i=>exact F h
def AU:bC ["text","lines","rest","plate","number","line","told"] ["text"] (ba Mj):=cg
inductive RpI(C:Cs)(ap pl qr x:Addr)(Hb:Hp)(L:dJ)(i:Nat)(σ:L2.St)(H':Hp):Prop
 |mk (p:dZ) (v4 v5 v6:Option V) (_:σ=[some Én,some (.ref pl),some (.ref qr),some ŧ,v4,v5,v6]) (_:ai Hb H') (_:Rep C H' p) (_:p.a=x) (_:(∀b,b∈(eY C p).M (·.1)->Hb b=Β)) (_:nW 0 ⟨0,[],[]⟩ L=nW i p.m (L.drop i))
def aiP{f:Addr}{fd:FD}(F:br K "read_plate" "read_plate" Mj f fd)(T:lx K C)(tL:mg "len"=Β)(tE:mg "enumerate"=Β)(cL:Cn mg "LINE_END" (.int 10))(cN:Cn mg "NO_SUCH_LINE" Ŝ)(cW:Cn mg "WRONG_PLACE" (.int 2))(dC:Ç 1 "cut" ["text","mark"] (xw K)) (dP:Ā "Plate" C.P ["side","classes","glimpses"]) (dN:VX P w K mg base CN N) (dR:Ç 5 "read_line" ["line"] (VL K)) (dM:Ç 3 "may_stand" ["plate","sort"] (VR C))(dU:Ç 3 "put" ["plate","sort","told"] (VT C)) (dW:Ç 3 "has_whole_hoists" ["plate"] (qX C qW)):Ģ Ē 6 f fd ["text"] (VZ K C CN):=by
 let(fN,V1,TN,iN,G8,GN,bN):=dN;refine F.qL AU Â;let(ap,j,rfl,hT,hl,k1,k2):=h;let ub:eS 2 _:=hr.mono Ñ;refine⟨_,aB (cf 1 AU.nd (bx (hr:=hr) dC (ae Ø (ae (cu cL) af))))
  (aB (cf 2 AU.nd (Tp PySem.F.plainAttrs_list PySem.F.slot_list_pop PySem.F.type_list_pop Tq á))
  (aB (cf 3 AU.nd (pV dP hr (ae bc (ae Ĩ Åg))))
  (aB (i6 (UD yM) rfl (jO Ð tE Ĺ) (iA 4 5 AU.nd)
   (aB (cf 6 AU.nd (bx (hr:=hr) dR ŀ))
   (aB (dj (pH (rR Ϫ)) (aA (i7 hr.hd TN.c (ĸ bN .nil tW (ae (cu cN) ŝ)))) dQ)
   (aB (dj (qB (jh (bx (hr:=hr) dM (ae ö (ae Ço af))))) (aA (i7 hr.hd TN.c (ĸ bN .nil tW (ae (cu cW) ŝ)))) dQ)
   (aA (pI (bx (hr:=hr) dU (ae ö (ae Ço (ae Ço af))))))))))
  (aB (dj (PW.pt (pw_or (cw ť Ø Ĩ (bU _)) (pw_or1 (cw Ãl å Ĩ (bU _)))))
   (aA (i7 hr.hd TN.c (ĸ bN .nil tW (ae (cu cN) (ae Ă af))))) dQ)
  (aB (dj (qB (jh (bx (hr:=hr) dW ĳ)))
   (aA (i7 hr.hd TN.c (ĸ bN .nil tW (ae (cu cW) (ae Ă af))))) dQ)
  (aA (aV ö))))))),?_⟩
 apply(_,Á,ap,10,j,Á,hT,gn hl Ñ,λH1 pl qs hN hp nd np hf=>?_);let(g9,qr,rfl,oJ,oK):=eU.last hp (JM.m5 10 j);let s1:=hN.1;apply(_,Á,.inl ⟨Á,_,aa.of hN.2.2⟩,pl,_,V.ref qr,Á,Á,hN.2.2,?_,?_)
 .simp
 let eL:(((g9++[qr]).M V.ref).dropLast)=g9.M V.ref:=by rw[bH];simp
 rw[eL];let NJ:=λz=>np (wD _ z);let NK:qr≠pl:=λz=>np Å;generalize hL:(JM.aN 10 j).dropLast=L at oJ;generalize hRest:(JM.aN 10 j).getLastD []=O at oK;let sb:ai H ŗ:=fc s1 hN.2.1;let AV:eU ŗ g9 L:=eU.upd oJ NJ;let rb:(ŗ) qr=Α (.lst (iv O)):=by rw[az NK];exact oK
 let lb:(ŗ) pl=Α Ą:=aq;generalize ŗ=Hb at sb AV rb lb;let auI:L.L<=66000:=by
  rw[<-hL,aa8];let:=GQ 10 j;omega
 let V2:=AV.len;let aiQ:∀w∈L,w.L<=100000:=λw M=>by
  let:=yS 10 j w (by rw[<-hL] at M;exact B1 _ M);lia
 let U:ip j=match nW 0 ⟨0,[],[]⟩ L with
   |.error e=>.error e
   |.ok m=>if j=[]\/O≠[] then .error (1,L.L) else if qW m=true then .ok m else .error (2,L.L):=by
  ext ip;rw[hL,hRest]
 let DI:∀(kk ll:Nat)(Hx:Hp),ip j=.error (kk,ll)->ai H Hx->([V.int (kk:Nat),V.int (ll:Nat)]:ay).L<=sizeLine/\∀x,Hx x=Β->
   NI CN (V.ref x::([V.int (kk:Nat),V.int (ll:Nat)]++[])) (upd Hx x (exc CN none .none x)) (λv H2=>v=.aO/\∃a od,V.ref x=V.ref a/\H2 a=Α (exc CN od .none a)/\(∀d,od=Α d->d≠a)/\E (.ref CN) od H2) E0:=λkk ll Hx e J=>
  ⟨(by show 2<=sizeLine;decide),λx Y=>⟨x,kk,ll,rfl,aq,λH5 d h1 aL h2 kp=>⟨rfl,x,some d,rfl,h1,λd' e'=>(by cases e';exact aL),k2 _ e H5 d (λb o eb=>kp b o (by rw[az (eQ (J _ _ eb) Y)];exact J _ _ eb) (eQ (J _ _ eb) Y)) h2⟩⟩⟩
 apply(di _,λZ eZ=>⟨di _,λl2 jM=>?_⟩);intro x dx Y gU V3;refine⟨x,dx,_,Á,Á,aq,λH4 h4 k4=>Ţ⟩;let t1:ai Hb (upd Hb Z ã):=aG eZ;let t2:ai Hb (upd (upd Hb Z ã) l2 ã):=fc t1 (t1.free jM);let t4:=ai.made Y gU k4;let t5:=t2.R t4;let V4:Z≠l2:=λz=>by rw[<-z,aq] at jM;cases jM
 let nx2:l2≠x:=λz=>by rw[<-z,aq] at Y;cases Y
 let nx1:Z≠x:=λz=>by rw[<-z,az V4,aq] at Y;cases Y
 let R0:Rep C H4 ⟨x,dx,Z,l2,0,[],[]⟩:=by
  apply(λy hy=>?_,?_)
  .let hy:=hy;rcases a8.mp hy with rfl|hy
   .exact h4
   .rcases a8.mp hy with rfl|hy
    .exact t4 _ _ (by rw[az V4];exact aq)
    .obtain rfl:=iS.mp hy;exact t4 _ _ aq
  .show([x,Z,l2]:LA).Nodup;grind
 let F0:∀b,b∈(eY C ⟨x,dx,Z,l2,0,[],[]⟩).M (·.1)->Hb b=Β:=λb hb=>by
  let hb:b=x\/b=Z\/b=l2:=by simpa [eY] using hb
  rcases hb with rfl|rfl|rfl
  .exact t2.free Y
  .omega
  .exact t1.free jM
 refine⟨_,Á,pl,_,Á,aa.of (t5 _ _ lb),Le (K:=K) (a:=pl) (xs:=g9.M V.ref)
  (RpI C ap pl qr x Hb L)
  ⟨⟨x,dx,Z,l2,0,[],[]⟩,none,none,none,rfl,t5,R0,rfl,F0,rfl⟩ (λi σ H' _ h=>(by let(_,_,_,_,_,J):=h;exact aa.of (J _ _ lb))) ?_ ?_⟩
 .rintro i y TT σ H' hi ⟨p,v4,v5,v6,rfl,J,R,AR,qH,uc⟩ xl;obtain⟨q,hq,rfl⟩:∃q,g9[i]? =Α q/\y=V.ref q:=by
   grind
  let(wd,M,hqw):=eU.get AV hq;let sT:=fc (o:=.tup [.int (i:Nat),.ref q]) J (J.free xl);let V5:ai H' (upd H' TT (.tup [.int (i:Nat),.ref q])):=aG xl;rw[drop_cons M] at uc;apply(TT,_,Á,bw.of aq,Á,_,_,Á,_,_,Á,Á,_,Á,q,wd,Á,aa.of (sT _ _ hqw),aiQ wd (bj M),λH3 v s3 G9=>?_);let V6:=sT.R s3;let s3H:=sb.R V6;cases AW:lD wd with
  |none=>
   rw[AW] at G9;obtain rfl:v=.aO:=G9;let W:ip j=.error (1,i):=by
    rw[U,uc];ext nW;symm
   exact(_,Á,_,Á,ite_yes Á ⟨_,Á,DI 1 i H3 W s3H⟩)
  |some t=>
   rw[AW] at G9;let(q2,y2,rfl,t9,NL,ta):=G9;let L3:=R.lies.E (V5.R s3);refine⟨_,Á,_,Á,ite_no Ä ⟨_,Á,_,Á,q2,_,0,_,Á,Á,bw.of NL,Á,p,t.sort,Å,L3,λH5 s5=>Ę⟩⟩;let V7:=V6.R s5;let s5H:=sb.R V7;apply a0 (λhm=>?_) (λhm=>?_)
   .simp at hm;let W:ip j=.error (2,i):=by
     rw[U,uc];ext nW;symm
    exact(_,Á,DI 2 i H5 W s5H)
   .simp at hm;let R5:Rep C H5 p:=⟨L3.E s5,R.nd⟩;refine⟨_,Á,_,Á,q2,_,0,_,Á,Á,bw.of (s5 _ _ NL),Á,_,Á,q2,_,1,_,Á,Á,bw.of (s5 _ _ NL),Á,p,t,y2,upd H' TT (.tup [.int (i:Nat),.ref q]),(by rw[AR];rfl),R5,s3.R s5,R.lies.E V5,ta.E s5,
     λl e=>aiN (by rw[AW,e]),hm,λH6 p' e1 e2 R6 kf kn=>?_⟩
    apply(p',_,_,_,Á,λb o eb=>kf b o (V7 _ _ eb) (λz=>by grind),R6,e1.R AR,λb hb=>?_,?_)
    .rcases kn b hb with z|z
     .grind
     .exact sT.free z
    .rw[uc,e2];rw[show nW i p.m (wd::L.drop (i+1))=(match lD wd with
      |none=>.error (1,i)
      |some t=>if eC p.m t.sort=true then nW (i+1) (sy p.m t) (L.drop (i+1)) else .error (2,i)) from rfl,AW]
     symm
 .rintro σ H' ⟨p,v4,v5,v6,rfl,J,R,AR,qH,uc⟩;let sH:=sb.R J;rw[ak,V2,List.drop_length] at uc;let uc:nW 0 ⟨0,[],[]⟩ L=.ok p.m:=uc;rw[uc] at U;dsimp only at U;let NM:(((g9.M V.ref).L:Nat):Int)=((L.L:Nat):Int):=by rw[ak,V2]
  apply(_,Á,di _,λe1 n1=>?_);let Hc:=fc (o:=.lst []) sH (sH.free n1);let NQ:=fc (o:=.lst []) J (J.free n1);refine⟨ap,e1,_,Á,Á,Hc.seq hT,aa.of aq,_,Á,a0 Ï Ï⟩
  .let hc:j=[]:=by
    symm
   let W:ip j=.error (1,L.L):=by rw[U,ah (.inl hc)]
   apply(_,Á,pl,_,Á,.inl (aa.of (NQ _ _ lb)),?_);rw[NM];exact DI 1 L.L _ W Hc
  .let hc:¬j=[]:=λz=>hc Å;apply(_,Á,di _,λe2 n2=>?_);let NR:=fc (o:=.lst []) Hc (Hc.free n2);let NS:=fc (o:=.lst []) NQ (NQ.free n2);refine⟨qr,e2,_,Á,Á,aa.of (NS _ _ rb),aa.of aq,_,Á,a0 ģ ģ⟩
   .let hd:O≠[]:=λz=>by rw[z] at hd;exact absurd hd Ñ
    let W:ip j=.error (1,L.L):=by rw[U,ah (.inr hd)]
    apply(_,Á,pl,_,Á,.inl (aa.of (NS _ _ lb)),?_);rw[NM];exact DI 1 L.L _ W NR
   .let hd:O=[]:=by
     symm
    let CJ:¬(j=[]\/O≠[]):=λz=>z.elim hc (λz=>z hd);rw[ag CJ] at U;let Lx:Lies _ Áx:=(R.lies.E (aG (o:=.lst []) n1)).E (aG (o:=.lst []) n2);refine⟨_,Á,p,Å,Lx,λH3 s3=>Ę⟩;apply a0 (λM=>?_) (λM=>?_)
    .simp at M;let W:ip j=.error (2,L.L):=by rw[U,M];rfl
     apply(_,Á,pl,_,Á,.inl (aa.of (s3 _ _ (NS _ _ lb))),?_);rw[NM];exact DI 2 L.L _ W (NR.R s3)
    .simp at M;rw[ah M] at U;refine Ę;let q:=k1 p.m U H3 p (NR.R s3) (Lx.E s3) rfl;symm
end
def AX:Str:="ABCDEFGHIJKLMNOPQRSTUVWXYZ0123456789"
def iW(part:LI):Bool:=decide (1<=part.L)&&(decide (part.L<=8)&&part.all λb=>(codes AX).Y b)
inductive NU(K:FR)(vs:ay)(H:Hp)(Q:VK)(E':XK):Prop
 |mk (ap:Addr) (part:LI) (_:vs=[.ref ap]) (_:ä ap Ão) (_:part.L<=100000) (_:∀H',ai H H'->Q (.bl (iW part)) H')
section
variable{P:Pg}{w:Wd}{K:FR}{mg:MG}{base:Heap}
def aiU:bC ["part"] ["part"] (ba L7):=cg
def aiV(F:br K "is_name" "is_name" L7 f fd)(tL:mg "len"=Β)(M:Cn mg "LONGEST_NAME" Éo)(O:Cn mg "NAME_SIGNS" (.str AX))(U:Ç 2 "places_in" ["signs","part"] (GV K)):Ë 3 f fd ["part"] (NU K):=by
 refine F.ok aiU Â;let(j,part,rfl,J,hl,k):=h;refine⟨_,aA (aV (vq (SS yA yA bc č (cu M))
  (rS (Sw (Ka (bx (hr:=hr) U (ae (cu O) õ))))))),?_⟩
 let W:decide ((1:Int)<=(((iv part).L:Nat):Int))=decide (1<=part.L):=by
  grind
 let Y:decide ((((iv part).L:Nat):Int)<=8)=decide (part.L<=8):=by
  grind
 let q:=k;delta iW at q;apply(_,Á,j,_,Á,.inl J,_,_,Á,Á,_,Á,?_);rw[W];refine a0 Ï Ï
 .apply(_,_,Á,Á,_,Á,?_);rw[Y];refine a0 ģ ģ
  .rw[hc,hd,nt,nt] at q;apply(_,Á,AX,j,part,Á,by decide,J,hl,λz H' s1=>?_,λl z H' p Z=>?_)
   .let q:=q _ s1;delta kC at z;lia
   .let q:=q _ Z.1;delta kC at z;lia
  .let hd:decide (part.L<=8)=false:=by simpa using hd
   rw[hd,mG,zV] at q;exact q _ ſ
 .let hc:decide (1<=part.L)=false:=by simpa using hc
  rw[hc,mG] at q;exact(_,Á,q _ ſ)
def fJ(t:LI)(line:LI):Option LI:=match JM.aN 32 line with
 |[a,b]=>if a=t/\iW b=true then some b else none
 |_=>none
inductive NV(K:FR)(vs:ay)(H:Hp)(Q:VK)(E':XK):Prop
 |mk (x:Str) (ap:Addr) (line:LI) (_:vs=[.str x,.ref ap]) (_:x.cps.u<=100000) (_:ä ap Æo) (_:line.L<=100000) (_:∀H' v,ai H H'->LstAt H H' (fJ ũ line) v->Q v H')
theorem aiW(h:l.L=2):∃a b,l=[a,b]:=by
 match l,h with
 |[a,b],_=>exact(a,b,Á)
def V8:bC ["title","line","words"] ["title","line"] (ba L9):=cg
def aiX(F:br K "name_behind" "name_behind" L9 f fd)(tL:mg "len"=Β)(cB:Cn mg "BLANK" Æs)(dC:Ç 1 "cut" ["text","mark"] (xw K)) (dS:Ç 1 "spelled" ["written"] Dy) (dN:Ç 3 "is_name" ["part"] (NU K)):
  aZ P w K mg base aE 4 f fd ["title","line"] (NV K):=by
 refine F.ok V8 Â;let(x,ap,line,rfl,hx,hP,Z,k):=h;let qV:eS 1 _:=hr.mono Ñ;refine⟨_,aB (cf 2 V8.nd (bx (hr:=qV) dC (ae á Ϸ)))
  (aB (dj (PW.pt (pw_or (cw wR ā bc (bU _))
    (pw_or (cw (Lh hr.units) Ád (bx (hr:=qV) dS õ) (bU _))
    (pw_or1 (qB (jh (bx (hr:=hr) dN (ae Ád af)))))))) ϋ dQ)
  (aA (aV Ád))),?_⟩
 apply(_,Á,ap,32,line,Á,hP,Z,λH1 p O M j nd np hf=>?_);let bZ:((O.M V.ref).L:Int)=((JM.aN 32 line).L:Nat):=by rw[ak,j.len]
 let s1:=M.1;refine⟨_,Á,p,_,Á,.inl (aa.of M.2.2),Á,_,Á,a0 Ï Ï⟩
 .apply k H1 .aO s1 ?_;let:fJ ũ line=Β:=by
   ext fJ;grind
  rw[this];rfl
 .let h2:(JM.aN 32 line).L=2:=by
   grind
  let(a,b,W):=aiW h2;rw[W] at j;let en:fJ ũ line=if a=codes x/\iW b=true then some b else none:=by ext fJ;rw[W]
  let Nt:∀w∈[a,b],w.L<=100000:=λw hw=>gn (yS 32 line w Å) Z;obtain⟨qa,J,rfl⟩:∃x y,O=[x,y]:=by
   let:=j.len
   match O,this with
   |[x,y],_=>exact(x,y,Á)
  cases j with
  |cons ha j=>
   cases j with
   |cons Y j=>
    apply(_,Á,p,_,0,V.ref qa,Á,Á,aa.of M.2.2,Á,_,Á,x,Á,hx,λH2 p2 q=>?_);let s2:=s1.R q.1;refine⟨qa,p2,a,codes x,Á,Á,aa.of (q.1 _ _ ha),aa.of q.2.2,_,Á,a0 ģ ģ⟩
    .apply k H2 .aO s2 ?_;simp at hd;rw[en,ag (λz=>hd z.1)];rfl
    .simp at hd;refine⟨_,Á,p,_,1,V.ref J,Á,Á,aa.of (q.1 _ _ M.2.2),Á,J,b,Á,aa.of (q.1 _ _ Y),Nt b Ä,λU s3=>Ę⟩;refine a0 Æu Æu
     .let hn:¬iW b=true:=by simpa using hn
      apply k U .aO ğ ?_;rw[en,ag (λz=>hn z.2)];rfl
     .simp at hn;apply(_,Á,p,_,1,V.ref J,Á,Á,aa.of (s3 _ _ (q.1 _ _ M.2.2)),Á,?_);apply k U (.ref J) ğ ?_;rw[en,ah ⟨hd,hn⟩];exact(J,Á,hf J Ä,s3 _ _ (q.1 _ _ Y))
def kH(j:LI):Option dJ:=if (JM.aN 10 j).getLastD []=[] then some (JM.aN 10 j).dropLast else none
def aiY(H H':Hp):Option dJ->V->Prop
 |none,v=>v=.aO
 |some L,v=>∃p qs,v=.ref p/\H p=Β/\H' p=Α Ĕ/\eU H' qs L/\(∀q∈qs,H q=Β)
inductive NW(K:FR)(vs:ay)(H:Hp)(Q:VK)(E':XK):Prop
 |mk (ap:Addr) (bY:LI) (_:vs=[.ref ap]) (_:ä ap (iv bY)) (_:bY.L<=100000) (_:∀H' v,ai H H'->aiY H H' (kH bY) v->Q v H')
def NX:bC ["text","lines","rest"] ["text"] (ba LX):=cg
def aiZ(F:br K "whole_lines" "whole_lines" LX f fd)(cL:Cn mg "LINE_END" (.int 10))(dC:Ç 1 "cut" ["text","mark"] (xw K)):
  aZ P w K mg base aE 2 f fd ["text"] (NW K):=by
 refine F.ok NX Â;let(ap,j,rfl,hP,hl,k):=h;refine⟨_,aB (cf 1 NX.nd (bx (hr:=hr) dC (ae Ø (ae (cu cL) af))))
  (aB (cf 2 NX.nd (Tp PySem.F.plainAttrs_list PySem.F.slot_list_pop PySem.F.type_list_pop Tq á))
  (aA (aV (tI (cw ť å Ĩ (bU _)) á rQ)))),?_⟩
 apply(_,Á,ap,10,j,Á,hP,hl,λH1 pl qs J hp nd np hf=>?_);let(g9,M,rfl,oJ,oK):=eU.last hp (JM.m5 10 j);let s1:=J.1;apply(_,Á,.inl ⟨Á,_,aa.of J.2.2⟩,pl,_,V.ref M,Á,Á,J.2.2,?_,?_)
 .simp
 let eL:(((g9++[M]).M V.ref).dropLast)=g9.M V.ref:=by rw[bH];simp
 rw[eL];let NJ:=λz=>np (wD _ z);let NK:M≠pl:=λz=>np Å;let U:ai H ŗ:=fc s1 J.2.1;let W:=eU.upd (o:=.lst (g9.M V.ref)) oJ NJ;let rb:(ŗ) M=Α (.lst (iv ((JM.aN 10 j).getLastD []))):=by rw[az NK];exact oK
 let lb:(ŗ) pl=Α Ą:=aq;generalize ŗ=Y at U W rb lb;apply(_,Á,di _,λZ n1=>?_);let s2:=fc (o:=.lst []) U (U.free n1);let O:ai Y (upd Y Z ã):=aG n1;refine⟨M,Z,_,Á,Á,aa.of (O _ _ rb),aa.of aq,_,Á,a0 Ï Ï⟩
 .let hc:(JM.aN 10 j).getLastD []=[]:=by simpa using hc
  apply(_,Á,k _ _ s2 ?_);ext kH;rw[ah hc];exact(pl,g9,Á,J.2.1,O _ _ lb,W.E O,λq hq=>hf q (wD _ hq))
 .let hc:¬(JM.aN 10 j).getLastD []=[]:=by simpa using hc
  apply k _ _ s2 ?_;ext kH;rw[ag hc];rfl
end
structure iq where
 role:Nat
 name:LI
 lG:Int
 copies:Int
 shape:Nat
 look:LI
abbrev aI:=List iq
structure au where
 a:Addr
 dx:Addr
 nm:Addr
 lk:Addr
 m:iq
def xy(k:au):List (Str×V):=[("role",.int (k.m.role:Nat)),("name",.ref k.nm),("which",.int k.m.lG),("copies",.int k.m.copies),("shape",.int (k.m.shape:Nat)),("look",.ref k.lk)]
def lH(C:Addr)(k:au):jo:=[(k.a,.ins C k.dx (xy k)),(k.nm,.lst (iv k.m.name)),(k.lk,.lst (iv k.m.look))]
def xA(k:au):(xy k).Q ("role":Str)=Α (.int (k.m.role:Nat)):=gK
def V9(k:au):(xy k).Q ("name":Str)=Α (.ref k.nm):=(fm É).R gK
def NZ(k:au):(xy k).Q ("which":Str)=Α (.int k.m.lG):=(fm É).R ((fm É).R gK)
def N0(k:au):(xy k).Q ("copies":Str)=Α (.int k.m.copies):=(fm É).R ((fm É).R ((fm É).R gK))
def Wa(k:au):(xy k).Q ("shape":Str)=Α (.int (k.m.shape:Nat)):=(fm É).R ((fm É).R ((fm É).R ((fm É).R gK)))
def Wb(k:au):(xy k).Q ("look":Str)=Α (.ref k.lk):=(fm É).R ((fm É).R ((fm É).R ((fm É).R ((fm É).R gK))))
structure vO where
 a:Addr
 dx:Addr
 nm:Addr
 kl:Addr
 name:LI
 kinds:List au
def Hd(l:vO):List (Str×V):=[("name",.ref l.nm),("kinds",.ref l.kl)]
def AY(C:Addr)(ks:List au):jo:=ks.flatMap (lH C)
def ai0(l:vO):(Hd l).Q ("name":Str)=Α (.ref l.nm):=gK
def DJ(l:vO):(Hd l).Q ("kinds":Str)=Α (.ref l.kl):=(fm É).R gK
structure ud(K:FR)(C:Addr):Prop where
 c:l7 K C
 xB:ϱ "role"
 nName:ϱ "name"
 N5:ϱ "which"
 N6:ϱ "copies"
 yU:ϱ "shape"
 Wc:ϱ "look"
structure LkT(K:FR)(C:Addr):Prop where
 c:l7 K C
 nName:ϱ "name"
 auL:ϱ "kinds"
structure ir(K:FR)(mg:MG)(x:Str)(C N:Addr):Prop where
 c:XC K C N
 lI:PySem.W.nsIn K N "__init__"=Α none
 mC:mg x=Α Ĉ
 keep:PySem.W.keepIn K Ĉ=true
section
variable{P:Pg}{w:Wd}{K:FR}{mg:MG}{base:Heap}{C CN N:Addr}
abbrev No(E:XK)(C:Addr)(H:Hp):Prop:=∀H',ai H H'->E Ĉ none H'
def No.go(h:No E C H)(s:ai H H1):No E C H1:=λj q=>h j (s.R q)
def gc(h:No E C H):∀x,H x=Β->∃(a:Addr)(od:OA),V.ref x=V.ref a/\upd H x Ś a=Α (exc C od .none a)/\(∀d,od=Α d->d≠a)/\E Ĉ od (upd H x Ś):=
 λx j=>⟨x,none,rfl,aq,λd z=>(by cases z),h _ (aG j)⟩
inductive N7(K:FR)(CN:Addr)(vs:ay)(H:Hp)(Q:VK)(E:XK):Prop
 |mk (ap:Addr) (part:LI) (_:vs=[.ref ap]) (_:ä ap Ão) (_:part.L<=100000) (_:(iW part=true->∀H',ai H H'->Q Én H')) (_:(iW part=false->No E CN H))
def ai2:bC ["word"] ["word"] (ba Mb):=cg
def ai3(F:br K "read_name" "read_name" Mb f fd)(X:Ğ "NoLocker" CN N)(z:Ç 3 "is_name" ["part"] (NU K)):
  aZ P w K mg base Ē 4 f fd ["word"] (N7 K CN):=by
 refine F.qL ai2 Â;let(q,part,rfl,J,M,k1,k2):=h;apply(_,aB (dj (qB (jh (bx z õ))) ő dQ) (aA (aV Ø)),?_);refine⟨_,Á,q,part,Á,J,M,λH1 j=>⟨_,Á,a0 Ï Ï⟩⟩
 .exact gc ((k2 Å).go j)
 .exact(_,Á,k1 Å H1 j)
def iL(w:LI)(M:Int):Option Int:=match w with
 |[d]=>if d<49\/d>48+M then none else some (d-48)
 |_=>none
inductive N8(K:FR)(CN:Addr)(vs:ay)(H:Hp)(Q:VK)(E:XK):Prop
 |mk (ap:Addr) (part:LI) (most:Int) (_:vs=[.ref ap,.int most]) (_:ä ap Ão) (_:part.L<=100000) (_:(∀d,iL part most=Α d->∀H',ai H H'->Q (.int d) H')) (_:(iL part most=Β->No E CN H))
def ai4:bC ["word","most"] ["word","most"] (ba Mc):=cg
def ai5(F:br K "read_digit" "read_digit" Mc f fd)(tL:mg "len"=Β)(X:Ğ "NoLocker" CN N)(J:Cn mg "DIGIT_ZERO" (.int 48)):
  aZ P w K mg base Ē 1 f fd ["word","most"] (N8 K CN):=by
 refine F.qL ai4 Â;let(j,part,M,rfl,z,U,k1,k2):=h;refine⟨_,aB (dj (PW.pt (pw_or (cw wR č bc (bU _))
   (pw_or (cw yz Çn (d9 pK (cu J) bc) (bU _)) (pw_or1 (cw rW Çn (d9 pK (cu J) á) (bU _))))))
   (Ý) dQ) (aA (aV (d9 rV Çn (cu J)))),?_⟩
 refine⟨_,Á,j,_,Á,.inl z,Á,_,Á,a0 Ï Ï⟩
 .let e:iL part M=Β:=by
   ext iL;grind
  exact gc (k2 e)
 .obtain⟨d,rfl⟩:∃d,part=[d]:=by
   match part with
   |[d]=>exact(d,Á)
   |[]=>exact absurd (by simp[iv]) hc
   |a::b::r=>
    exfalso;apply hc;simp only[iv,ak,dg,Bool.not_eq_true',JP];intro q;injection q with q;lia
  let O:iL [d] M=if d<49\/d>48+M then none else some (d-48):=rfl;refine⟨_,Á,j,_,0,V.int d,Á,Á,z,Á,_,_,Á,Á,_,_,Á,Á,_,Á,a0 ū ū⟩
  .simp at h1;exact gc (k2 Å)
  .simp at h1;refine⟨_,Á,j,_,0,V.int d,Á,Á,z,Á,_,Á,_,_,Á,Á,_,_,Á,Á,_,Á,a0 Àw Àw⟩
   .simp at h2;exact gc (k2 Å)
   .simp at h2;exact(_,Á,j,_,0,V.int d,Á,Á,z,Á,_,_,Á,Á,(k1 _ Å H ſ))
end
def xE{C:Addr}{ns:LS}{as:ay}{H1:Hp}{Q:VK}{E:XK}(O:as.L=ns.L)(h:∀x dx H',H1 x=Β->H1 dx=Β->dx≠x->H' x=Α (.ins C dx (ns.zip as))->ai H1 H'->Q ŧ H'):
  ∀x dx,H1 x=Β->H1 dx=Β->dx≠x->GY C ns (.ref x::(as++[])) (upd (upd H1 dx Åu) x Âx) (λv z=>v=.aO/\Q ŧ z) E:=λx dx q hd F=>
 ⟨x,dx,as,by rw[jF],O,aq,λH' J M=>⟨rfl,h x dx H' q hd F J λb o j=>M b o (by rw[az (eQ j q),az (eQ j hd)];exact j) (eQ j q)⟩⟩
theorem eU.at{H:Hp}{qs:LA}{L:dJ}(h:eU H qs L){j:Nat}(z:j<L.L):∃q,q∈qs/\Äu[j]? =Α Åt/\H q=Α (.lst (iv (L.D j []))):=by
 induction h generalizing j with
 |nil=>exact absurd z Ä
 |cons r t F=>
  cases j with
  |zero=>exact(_,by simp,rfl,r)
  |succ j=>
   let(q,a,b,c):=F (j:=j) (À z);exact(q,aK _ a,b,c)
def N9{α:Type}{xs:List α}{k:Nat}{v:α}(hk:0<k)(h:xs[xs.L-k]? =Α v)(j:k<=xs.L):qF xs (-(k:Int))=Α v:=by
 let e:tK xs.L (-(k:Int))=Α (xs.L-k):=by
  ext tK;grind
 ext qF;symm
def vP:LS:=["sign","same","answer"]
def kI:LS:=["square","tails","long"]
def m9(r:Nat)(w:LI):Option LI:=if r=0 then (if iW w=true then some w else none) else some []
def sA(r:Nat)(w:LI):Option Int:=if r=1 then iL w 4 else some 0
def sC(r:Nat):Option LI->Option Int->Option Int->Option Nat->Option LI->Option iq
 |some n,some h,some c,some s,some l=>some ⟨r,n,h,c,s,l⟩
 |_,_,_,_,_=>none
def pW(ws:dJ):Option iq:=match bV Ϛ Àj with
 |none=>none
 |some r=>if ws.L=(if r=2 then 4 else 5) then sC r (m9 r Ŗ) (sA r Ŗ) (iL (ws.D (ws.L-3) []) 8) (bV Ć (ws.D (ws.L-2) [])) (iF (ws.D (ws.L-1) [])) else none
def iX(line:LI):Option iq:=pW (JM.aN 32 line)
def He{b c d e}:sC r none b c d e=Β:=by cases b <;> cases c <;> cases d <;> cases e <;> rfl
def Hf{a c d e}:sC r a none c d e=Β:=by cases a <;> cases c <;> cases d <;> cases e <;> rfl
def Oa{a b d e}:sC r a b none d e=Β:=by cases a <;> cases b <;> cases d <;> cases e <;> rfl
def Hg{a b c e}:sC r a b c none e=Β:=by cases a <;> cases b <;> cases c <;> cases e <;> rfl
def Hh{a b c d}:sC r a b c d none=Β:=by cases a <;> cases b <;> cases c <;> cases d <;> rfl
def AZ{q:dJ}{part:LI}{r:Nat}(h:bV q part=Α r):r<q.L:=by
 delta bV at h;let(j,_):=RU.mp h;exact j
inductive Ob(K:FR)(CK CN:Addr)(vs:ay)(H:Hp)(Q:VK)(E:XK):Prop
 |mk (ap:Addr) (line:LI) (_:vs=[.ref ap]) (_:ä ap Æo) (_:line.L<=100000) (_:(∀m,iX line=Α m->∀H' k,ai H H'->k.m=m->aU H' (lH CK k)->(∀x∈lH CK k,H x.1=Β)->Q (.ref k.a) H')) (_:(iX line=Β->No E CN H))
section
variable{P:Pg}{w:Wd}{K:FR}{mg:MG}{base:Heap}{CK CN N:Addr}
def xF:bC ["line","words","role","name","which","copies","shape","look"] ["line"] (ba Md):=cg
def ai6(h2:σ[2]? =Α (some (.int (r:Nat))))(J:σ[1]? =Α (some Ĝ))(O:ä p xs)(q:xs[1]? =Α (.ref q1))(F:H q1=Α (.lst (iv w1)))(U:w1.L<=100000)(no:m9 r w1=Β->No E CN H) (yes:∀n,m9 r w1=Α n->∀z a,ai H z->z a=Α (.lst (iv n))->(a=q1\/H a=Β)->Q ħ z):
  yt (mX (bQ pL ř Är)) (g8 (N7 K CN) [] E (a9 (bQ Ũ ž Äq) dq)) (Am dq) σ H Q:=by
 refine⟨_,h2,Á,_,Á,a0 Ï Ï⟩
 .let e:r=0:=by
   symm
  delta m9 at no yes;rw[ah e] at no;apply(_,J,p,xs,1,.ref q1,Á,Á,O,fZ (j:=1) q,q1,w1,Á,aa.of F,U,λM H' s'=>?_,λM=>no Å);apply yes w1 ?_ H' q1 s' (s' _ _ F) ĝ;symm
 .let e:¬r=0:=by
   symm
  exact(di _,λx q=>(yes [] (by ext m9;rw[ag e]) _ x (aG q) aq (.inr q)))
def ai7{K:FR}{CN:Addr}{E:XK}{σ:L2.St}{H:Hp}{Q:VK}{p:Addr}{xs:ay}{r:Nat}{q:Addr}{w1:LI}(h2:σ[2]? =Α (some (.int (r:Nat))))(J:σ[1]? =Α (some Ĝ))(O:ä p xs)(Y:xs[1]? =Α (.ref q))(U:H q=Α (.lst (iv w1)))(W:w1.L<=100000)(no:sA r w1=Β->No E CN H) (yes:∀n,sA r w1=Α n->∀F,ai H F->Q (.int n) F):
  yt (mX (bQ pL ř Äq)) (g8 (N8 K CN) [] E (a9 (bQ Ũ ž Äq) (a9 (tC (.int 4)) dq))) Är σ H Q:=by
 refine⟨_,h2,Á,_,Á,a0 Ï Ï⟩
 .let e:r=1:=by
   let:V.int (r:Nat)=V.int 1:=À hc
   injection this with this;lia
  delta sA at no yes;rw[ah e] at no yes;exact(_,J,p,xs,1,.ref q,Á,Á,O,fZ (j:=1) Y,q,w1,4,Á,aa.of U,W,λd hd H' s'=>yes d hd H' s',λM=>no M)
 .let e:¬r=1:=by
   intro z;apply hc;rw[z];simp
  exact yes 0 (by ext sA;rw[ag e]) H ſ
def ai8{f:Addr}{fd:FD}(F:br K "read_kind" "read_kind" Md f fd)(tL:mg "len"=Β)(X:Ğ "NoLocker" CN N)(cB:Cn mg "BLANK" Æs)(cR:Tn K mg "ROLES" (vP.M V.str))(cW:Tn K mg "WORDS_OF_ROLES" [.int 5,.int 5,.int 4])(cS:Cn mg "SIGN" œ) (cSa:Cn mg "SAME" Ŝ) (cMS:Cn mg "MOST_SAME" (.int 4)) (cMC:Cn mg "MOST_COPIES" Éo) (cSh:Tn K mg "SHAPES" (kI.M V.str))(dC:Ç 1 "cut" ["text","mark"] (xw K)) (dA:Ç 2 "place_among" ["words","part"] (GU K)) (dN:Ċ Ē 4 "read_name" ["word"] (N7 K CN)) (dD:Ċ Ē 1 "read_digit" ["word","most"] (N8 K CN))(dR:Ç 3 "read_colours" ["part"] (Nk K)) (dK:Ā "Kind" CK ["role","name","which","copies","shape","look"]):Ģ Ē 5 f fd ["line"] (Ob K CK CN):=by
 let(aR,mR,hR):=cR;let(aW,mW,hW):=cW;let(We,mSh,hSh):=cSh;let(fN,V1,GN,mN,kN,bN):=dN;let(fD,fdD,GD,mD,kD,bD):=dD;refine F.qL xF Â;let(ap,line,rfl,hP,hl,k1,k2):=h;let qV:eS 1 _:=hr.mono Ñ;refine⟨_,aB (cf 1 xF.nd (bx (hr:=hr) dC (ae Ø Ϸ)))
  (aB (cf 2 xF.nd (bx (hr:=hr) dA (ae (vp (v:=.ref aR) Ð mR rfl) Ş)))
  (aB (dj (PW.pt (pw_or Çe (pw_or1 (cw wR Ă (cJ Ao (vp (v:=.ref aW) Ð mW rfl) å Ö) (bU _)))))
   (Ý) dQ)
  (aB (cf 3 xF.nd (tI (cw iB å Çm (bU _)) (nH GN hr rfl mN kN bN .nil sk Ş) Ĩ))
  (aB (cf 4 xF.nd (tI (cw iB å (cu cSa) (bU _)) (nH GD qV rfl mD kD bD .nil sk (ae (cJ c9 á bc Ö) (ae (cu cMS) af))) bc))
  (aB (cf 5 xF.nd (nH GD qV rfl mD kD bD .nil sk (ae Æi (ae (cu cMC) af))))
  (aB (cf 6 xF.nd (bx (hr:=hr) dA (ae (vp (v:=.ref We) Ð mSh rfl) (ae Æi af))))
  (aB (cf 7 xF.nd (bx (hr:=hr) dR (ae Æi af)))
  (aB (dj (PW.pt (pw_or (pH (rR Ϫ)) (pw_or1 (pH (rR Èe))))) Ý dQ)
  (aA (aV (pV dK hr (ae å (ae ö (ae ę (ae Ãd (ae Ϫ Âu)))))))))))))))),?_⟩
 apply(_,Á,ap,32,line,Á,hP,hl,λH1 p qs W Z nd np hf=>?_);let s1:=W.1;let hws:=λw hw=>gn (yS 32 line w hw) hl;let ek:iX line=pW (JM.aN 32 line):=rfl;let aL:=JM.m5 32 line;generalize JM.aN 32 line=ws at Z hws ek aL;let bZ:(qs.M V.ref).L=ws.L:=by rw[ak,Z.len]
 let U:∀j,(ws.D j []).L<=100000:=λj=>by
  grind
 let(q0,Dz,ue,hh0):=Z.at (j:=0) (by grind);apply(_,Á,p,_,0,_,Á,Á,aa.of W.2.2,fZ (j:=0) ue,aR,q0,vP,ws.D 0 [],Á,hR H1,by decide,aa.of hh0,λH2 s2=>?_);let q:=s1.R s2;refine⟨_,Á,_,Á,a0 Ï Ï⟩
 .let hc:oI (bV Ϛ Àj)=V.aO:=by simpa using hc
  let e:iX line=Β:=by
   rw[ek];ext pW;cases z:bV Ϛ Àj with
   |none=>rfl
   |some i=>rw[z] at hc;cases hc
  exact gc ((k2 e).go q)
 .let hc:¬oI (bV Ϛ Àj)=V.aO:=by simpa using hc
  obtain⟨r,er⟩:∃r,bV Ϛ Àj=Α r:=by
   cases z:bV Ϛ Àj with
   |none=>rw[z] at hc;exact absurd Á hc
   |some i=>simp
  let ajh:=AZ er;rw[er];let Y:iX line=if ws.L=(if r=2 then 4 else 5) then sC r (m9 r Ŗ) (sA r Ŗ) (iL (ws.D (ws.L-3) []) 8) (bV Ć (ws.D (ws.L-2) [])) (iF (ws.D (ws.L-1) [])) else none:=by
   rw[ek];ext pW;symm
  let eat:qF [V.int 5,V.int 5,V.int 4] (r:Int)=Α (.int ((if r=2 then 4 else 5:Nat):Int)):=by
   match r,ajh with
   |0,_=>rfl
   |1,_=>rfl
   |2,_=>rfl
  refine⟨_,Á,p,_,Á,.inl (aa.of (s2 _ _ W.2.2)),_,Á,aW,_,(r:Int),_,Á,Á,hW H2,eat,Á,_,Á,a0 ģ ģ⟩
  .let hd:¬ws.L=(if r=2 then 4 else 5):=by
    grind
   exact gc ((k2 Å).go q)
  .let hd:ws.L=(if r=2 then 4 else 5):=by
    grind
   rw[ah hd] at Y;let h4:4<=ws.L:=by rw[hd];split <;> decide
   let qz:=Z.E s2;let J:=s2 _ _ W.2.2;let(q1,DK,A0,Wf):=qz.at (j:=1) Î;let(q5,hq5,hx5,hh5):=qz.at (j:=ws.L-3) (by grind);let(q6,hq6,Wg,hh6):=qz.at (j:=ws.L-2) (by omega);let(q7,hq7,hx7,hh7):=qz.at (j:=ws.L-1) (by omega);apply ai6 (r:=r) (w1:=ws.D 1 []) Á Á (aa.of J) A0 Wf (U 1) (λz=>(k2 (by rw[Y,z,He])).go q) λnm enm H3 an M hn3 han=>?_;apply ai7 (r:=r) (w1:=ws.D 1 []) Á Á (aa.of (M _ _ J)) A0 (M _ _ Wf) (U 1) (λz=>(k2 (by rw[Y,z,Hf])).go (q.R M)) λwh ewh H4 s4=>?_;let mf:=(q.R M).R s4;let Oc:=M.R s4;apply(_,Á,_,Á,p,_,_,_,Á,Á,aa.of (Oc _ _ J),N9 (k:=3) Ñ Å Î,q5,ws.D (ws.L-3) [],8,Á,aa.of (Oc _ _ hh5),U _,λcp ecp H5 s5=>?_,λz=>(k2 (by rw[Y,z,Oa])).go mf);let uf:=mf.R s5;let Od:=Oc.R s5;apply(_,Á,_,Á,p,_,_,_,Á,Á,aa.of (Od _ _ J),N9 (k:=2) Ñ Å Î,We,q6,kI,ws.D (ws.L-2) [],Á,hSh H5,by decide,aa.of (Od _ _ hh6),λH6 s6=>?_);let yX:=uf.R s6;let Wh:=Od.R s6;apply(_,Á,_,Á,p,_,_,_,Á,Á,aa.of (Wh _ _ J),N9 (k:=1) Ñ Å Î,q7,ws.D (ws.L-1) [],Á,aa.of (Wh _ _ hh7),U _,λz H7 O=>?_,λlk elk H7 al Oe=>?_)
   .let no:=(k2 (by rw[Y,z,Hh])).go (yX.R O);exact(_,Á,_,Á,a0 (λ_=>gc no) (λ_=>⟨_,Á,_,Á,lp (gc no)⟩))
   .let O:=Oe.1;apply(_,Á,_,Á,a0 (λhs=>?_) (λhs=>⟨_,Á,_,Á,oG ?_⟩))
    .let hs:oI (bV Ć (ws.D (ws.L-2) []))=V.aO:=by simpa using hs
     let z:bV Ć (ws.D (ws.L-2) [])=Β:=by
      cases z:bV Ć (ws.D (ws.L-2) []) with
      |none=>rfl
      |some i=>rw[z] at hs;cases hs
     exact gc ((k2 (by rw[Y,z,Hg])).go (yX.R O))
    .let hs:¬oI (bV Ć (ws.D (ws.L-2) []))=V.aO:=by simpa using hs
     obtain⟨sh,Wi⟩:∃i,bV Ć (ws.D (ws.L-2) [])=Α i:=by
      cases z:bV Ć (ws.D (ws.L-2) []) with
      |none=>rw[z] at hs;exact absurd Á hs
      |some i=>simp
     rw[Wi];apply(_,Á,_,Á,_,Á,_,Á,_,Á,_,Á,xE Á λx dx H8 hx gU aL e8 s8=>?_);let vQ:=yX.R O;let DL:iX line=Α ⟨r,nm,wh,cp,sh,lk⟩:=by rw[Y,enm,ewh,ecp,Wi,elk];rfl
     apply k1 _ DL H8 ⟨x,dx,an,al,⟨r,nm,wh,cp,sh,lk⟩⟩ (vQ.R s8) Á Âm λy hy=>?_
     .simp only[lH,a8,kZ,k7] at hy;rcases hy with rfl|rfl|rfl
      .exact e8
      .exact s8 _ _ (O _ _ (s6 _ _ (s5 _ _ (s4 _ _ hn3))))
      .exact s8 _ _ Oe.2.2
     .simp only[lH,a8,kZ,k7] at hy;rcases hy with rfl|rfl|rfl
      .exact vQ.free hx
      .rcases han with rfl|z
       .symm
       .exact q.free z
      .exact yX.free Oe.2.1
end
def Wj{K:FR}{H H':Hp}(s:ai H H'){vs:ay}{j:List PyData}(x:jm K H vs j):jm K H' vs j:=
 jm.rec (motive_1:=λv d _=>Dp K H' v d) (motive_2:=λvs j _=>jm K H' vs j) .aO .bl .int .str (λh _ r=>.lst (s.seq h) r) (λh _ r=>.tup (ai.tup s h) r) .nil (λ_ _ h r=>.cons h r) x
def ajs{K:FR}{H H':Hp}(s:ai H H'){v:V}{d:PyData}(x:Ál v d):Dp K H' v d:=by
 cases Wj s (.cons x .nil);assumption
theorem ajt{K:FR}{H:Hp}{vs:ay}:∀{j:List PyData}(n:Nat),jm K H vs j->jm K H (vs.take n) (j.take n):=by
 induction vs with
 |nil=>intro j n h;cases h;cases n <;> exact .nil
 |cons v vs q=>
  intro j n h;cases h with
  |cons h r=>cases n with
   |zero=>exact .nil
   |succ n=>exact .cons h (q n r)
theorem aju{K:FR}{H:Hp}{vs:ay}:∀{j:List PyData}{i:Nat}{v:V},jm K H vs j->vs[i]? =Α v->∃d,j[i]? =Α d/\Ál v d:=by
 induction vs with
 |nil=>intro j i v _ e;simp at e
 |cons v vs z=>
  intro j i v h e;cases h with
  |cons h r=>cases i with
   |zero=>
    let:=aQ e;subst this;exact(_,Á,h)
   |succ i=>have q:=z (i:=i) r e;exact q
def Of(xs:ay){i:Nat}(h:i<=xs.L):pN xs none (some (i:Int))=xs.take i:=by
 ext pN;rw[HT.S8,HT.S9,abn,Nat.sub_zero,RV h]
def DM(xs:ay)(h:i<=xs.L):pN xs (some (i:Int)) none=xs.drop i:=by
 ext pN;rw[HT.S8,HT.S9,RV h];exact JE Ä
def ug{α:Type}{ys:ay}{L:List α}{g:α->V}(j:ys.L=L.L)(h:∀(i:Nat)(y:V)(x:α),ys[i]? =Α y->L[i]? =Α x->y=g x):ys=L.M g:=by
 apply yl;grind
def yY{n i:Nat}{x:Nat}(h:Él[i]? =Α x):x=i:=by
 let(j,h2):=bo.mp h;rw[abc] at h2;exact h2.symm
def yZ(j:List PyData)(i:Nat):Bool:=(j.take i).any λd=>PyData.eqv d (j.D i .none)
def pX(j:List PyData):Bool:=(List.range j.L).any (yZ j)
inductive Wk(K:FR)(vs:ay)(H:Hp)(Q:VK)(E':XK):Prop
 |mk (p:Addr) (xs:ay) (ds:List PyData) (_:vs=[.ref p]) (_:ä p xs) (_:jm K H xs ds) (_:(∀d∈ds,SeqAt.shaped d=true)) (_:xs.L<=100000) (_:∀H',ai H H'->Q (.bl (pX ds)) H')
section
variable{P:Pg}{w:Wd}{K:FR}{mg:MG}{base:Heap}{CK CN N:Addr}
def Og:bC ["things","place","thing"] ["things"] (ba Mh):=cg
def ajv{f:Addr}{fd:FD}(F:br K "has_twice" "has_twice" Mh f fd)(tA:mg "any"=Β)(tE:mg "enumerate"=Β):Ë 1 f fd ["things"] (Wk K):=by
 refine F.ok Og Â;let(p,xs,j,rfl,M,hd,O,hl,k):=h;let hu:A.units+3+128<cLine:=by let:=hr.un;exact qy Ä this
 refine⟨_,aA (aV (c8 (KL Á) Ð tA boot_any (ae (eA (own:=[("place",1),("thing",2)]) (g:=g2 K 1 2) (te:=bQ (U3 K) ř (Td (Tg K) Ų Ta (Tb ž))) Á Og.nd Ás Ê
  (λ_ _ _ _ _=>iA 1 2 Og.nd) Ò
  (λ_ _ _ _ _=>j7 (Li hu) å (wW wY Ø wU (wV á)) (by with_unfolding_all rfl))) af))),?_⟩
 apply(_,Á,p,xs,Á,M,λD hD=>mh (K:=K) (a:=p) (xs:=xs) (cy H D λi y ns=>ns=[]/\y=.bl (yZ j i)) Ď (λi H' _ f=>f.E.seq M) (λi x T H' hi f hT=>?_) þ)
 .let dm:=(bo.mp hi).1;apply(T,_,Á,bw.of aq,Á,_,_,Á,_,_,Á,Á,Á,eJ ?_);let s1:ai H' (upd H' T (.tup [.int (i:Nat),x])):=aG hT;let s2:=f.E.R s1;apply(_,Á,_,Á,_,Á,_,Á,p,xs,Á,s2.seq M,λc hc=>?_);let s3:=aG (o:=.lst (pN xs none (some (i:Int)))) hc;let(d,J,U):=aju hd hi;apply(c,_,j.take i,d,Á,aa.of aq,?_,ajs ğ U,λd hd=>O d (zX hd),O d (bj J),?_)
  .let z:=Wj ğ (ajt i hd);rw[Of xs (by omega)] at z⊢;omega
  .refine f.step hD Î Åz Ţ aU.nil Ä;ext yZ;symm
 .let(ys,s1,J,W,fl):=f.end;let Y:ys=((List.range j.L).M (yZ j)).M V.bl:=by
   rw[cj];apply ug (by rw[W,ik,U5 hd]) λi y x Z h2=>?_;let(ns,(_,e),_):=fl i y Z;grind
  apply(D,(List.range j.L).M (yZ j),Á,?_,?_)
  .rw[<-Y];exact aa.of J
  .let q:=k H' s1;delta pX at q;symm
def iY(a b:iq):Bool:=if a.role=0/\b.role=0 then true else HT.lexLt [(a.role:Nat),a.lG] [(b.role:Nat),b.lG]
inductive Oh(CK:Addr)(vs:ay)(H:Hp)(Q:VK)(E':XK):Prop
 |mk (a b:au) (_:vs=[.ref a.a,.ref b.a]) (_:aU H (lH CK a)) (_:aU H (lH CK b)) (_:∀H',ai H H'->Q (.bl (iY a.m b.m)) H')
def jQ(h:aU H (lH C k)):H k.a=Α (.ins C k.dx (xy k)):=h (k.a,_) (by simp[lH])
def Wl(h:aU H (lH C k)):H k.nm=Α (.lst (iv k.m.name)):=h (k.nm,_) (by simp[lH])
def Wm(h:aU H (lH C k)):H k.lk=Α (.lst (iv k.m.look)):=h (k.lk,_) (by simp[lH])
def nF(n m:Nat):decide (V.int (n:Nat)=V.int (m:Nat))=decide (n=m):=by
 grind
def ajw:bC ["before","kind"] ["before","kind"] (ba Mf):=cg
def ajx(F:br K "may_follow" "may_follow" Mf f fd)(T:ud K CK)(cS:Cn mg "SIGN" œ):Ë 1 f fd ["before","kind"] (Oh CK):=by
 refine F.ok ajw Â;let(a,b,rfl,j,J,k):=h;refine⟨_,aB (dj (PW.pt (pw_and (cw iB ĺ Çm (bU _)) (pw_and1 (cw iB Åh Çm (bU _))))) ϫ dQ)
  (aA (aV (j7 (adK hr.adw) (rX (ae ÿ Ãi)) (rX (ae Ň (ae Ň af))) (bU _)))),?_⟩
 let b7:¬(a.m.role=0/\b.m.role=0)->Co (bQ (Te K) (vt (a9 (fj K Ų "role") (a9 (fj K Ų "which") dq))) (vt (a9 (fj K ž "role") (a9 (fj K ž "which") dq)))) {nx:=λ_ H'=>Q .aO H',rt:=Q} [some (.ref a.a),some Çz] H:=λO=>by
  apply(_,Á,aY (jQ j) T.c T.xB (xA a) ⟨_,Á,aY (jQ j) T.c T.N5 (NZ a) ⟨(by show 2<=sizeLine;decide),λM h1=>?_⟩⟩);let s1:=aG (o:=.tup [.int (a.m.role:Nat),.int a.m.lG]) h1;apply(_,Á,aY (s1 _ _ (jQ J)) T.c T.xB (xA b) ⟨_,Á,aY (s1 _ _ (jQ J)) T.c T.N5 (NZ b) ⟨(by show 2<=sizeLine;decide),λt2 h2=>?_⟩⟩);let s2:=aG (o:=.tup [.int (b.m.role:Nat),.int b.m.lG]) h2;apply(M,t2,[(a.m.role:Nat),a.m.lG],[(b.m.role:Nat),b.m.lG],Á,Á,bw.of (s2 _ _ aq),bw.of aq,?_);let q:=k _ Áo;delta iY at q;lia
 refine⟨_,Á,aY (jQ j) T.c T.xB (xA a) Ļ⟩;rw[show V.int 0=V.int ((0:Nat):Int) from rfl,nF];refine a0 ū ū
 .simp at h1;refine⟨_,Á,aY (jQ J) T.c T.xB (xA b) Ļ⟩;rw[nF];refine a0 Àw Àw
  .simp at h2;let q:=k H ſ;delta iY at q;rw[ah ⟨h1,h2⟩] at q;exact q
  .simp at h2;exact b7 λz=>h2 z.2
 .simp at h1;exact b7 λz=>h1 z.1
end
def nY{C:Addr}{H:Hp}{ks:List au}(h:aU H (AY C ks)){k:au}(hk:k∈ks):aU H (lH C k):=λx j=>h x (jg.mpr ⟨k,hk,j⟩)
def ajy(h:∀k∈ks,aU H (lH C k)):aU H (AY C ks):=λx j=>by
 let(k,hk,j):=jg.mp j;exact h k hk x j
theorem Hk{l:List au}{i:Nat}{y:V}(h:(l.M λk=>V.ref k.a)[i]? =Α y):∃z,l[i]? =Α z/\y=V.ref z.a:=by
 rw[bz] at h;cases e:l[i]? with
 |none=>rw[e] at h;cases h
 |some z=>rw[e] at h;exact(z,Á,(aQ h).symm)
def isSign(m:iq):Bool:=decide (m.role=0)
def oN(ms:aI):Bool:=if (ms.J isSign).L<1\/(ms.J isSign).L>48 then false else (ms.zip (ms.drop 1)).all λp=>iY p.1 p.2
inductive Hl(CK:Addr)(b:aI->Bool)(vs:ay)(H:Hp)(Q:VK)(E':XK):Prop
 |mk (p:Addr) (ks:List au) (_:vs=[.ref p]) (_:H p=Α (.lst (ks.M λk=>V.ref k.a))) (_:aU H (AY CK ks)) (_:ks.L<=100000) (_:∀H',ai H H'->Q (.bl (b Ì)) H')
def A1{α:Type}{p:α->Bool}{l:List α}{i:Nat}{x:α}(h:l[i]? =Α x):(l.take (i+1)).J p=(l.take i).J p++(if p x=true then [x] else []):=by
 rw[take_snoc h,Fs];congr 1;by_cases z:p x=true
 .rw[ah z];simp[z]
 .rw[ag z];simp[z]
section
variable{P:Pg}{w:Wd}{K:FR}{mg:MG}{base:Heap}{CK CL CN N:Addr}
def A2:bC ["kinds","signs","kind","place"] ["kinds"] (ba Me):=cg
def ajz{f:Addr}{fd:FD}(F:br K "are_in_order" "are_in_order" Me f fd)(T:ud K CK)(tL:mg "len"=Β)(tA:mg "all"=Β)(tE:mg "enumerate"=Β)(cS:Cn mg "SIGN" œ)(cM:Cn mg "MOST_SIGNS" (.int 48))(dF:Ç 1 "may_follow" ["before","kind"] (Oh CK)):Ë 2 f fd ["kinds"] (Hl CK oN):=by
 refine F.ok A2 Â;let(p,ks,rfl,M,hk,hl,k):=h;refine⟨_,aB (cf 1 A2.nd (c8 gv Ð tL PySem.boot_len (ae (eA (own:=[("kind",2)]) (tt:=mX (bQ pL (fj K ř "role") Är)) (te:=ax 2) Á A2.nd Åe Ê
   (λ_ _ _ _ _=>cZ 2 A2.nd) (λ_ _ _ _ _=>oE (cw iB Àt Çm (bU _))) Äp) af)))
  (aB (dj (PW.pt (pw_or (cw yz á bc (bU _)) (pw_or1 (cw rW á (cu cM) (bU _))))) ϫ dQ)
  (aA (aV (c8 (w6 rfl) Ð tA zY (ae (eA (own:=[("place",3),("kind",2)]) (g:=g2 K 3 2) (te:=g8 (Oh CK) [] E0 (a9 (bQ Ũ Ų Ŀ) (a9 ř dq))) rfl A2.nd
   (jO Ð tE (ae (wW wY Ø (wV bc) wU) af)) Ê
   (λ_ _ _ _ _=>iA 3 2 A2.nd) Ò
   (λ_ _ _ _ _=>bx dF (ae (cJ c9 Ø ö Ö) ł))) af))))),?_⟩
 let J:oN Ì=if (ks.J λk=>isSign k.m).L<1\/(ks.J λk=>isSign k.m).L>48 then false else ((ks.M au.m).zip ((ks.M au.m).drop 1)).all λp=>iY p.1 p.2:=by
  ext oN;rw[wI,ak];rfl
 refine⟨_,Á,p,Á,⟨_,aa.of M⟩,λD Z=>fV (K:=K) (a:=p) (xs:=ks.M λk=>V.ref k.a) (λi H'=>ai H H'/\H' D=Α (.lst (((ks.take i).J λk=>isSign k.m).M λk=>V.ref k.a))) ⟨aG Z,aq⟩
  (λi H' _ ⟨j,_⟩=>aa.of (j _ _ M)) (λi y H' hi ⟨j,hd⟩=>?_) (λH' ⟨j,hd⟩=>?_)⟩
 .let(z,hz,rfl):=Hk hi;let dm:=(bo.mp hz).1;let y4:=(nY hk (bj hz)).E j;refine⟨Á,_,Á,aY (jQ y4) T.c T.xB (xA z) Ļ⟩;rw[show V.int 0=V.int ((0:Nat):Int) from rfl,nF];let Y:=A1 (p:=λk:au=>isSign k.m) hz;refine a0 Ï Ï
  .apply(_,Á,_,hd,?_,fc j Z,?_)
   .rw[ak];let:=B3 (λk:au=>isSign k.m) (ks.take i);rw[iR] at this;exact f7 Î
   .rw[aq,Y,ah (show isSign z.m=true from hc),bH];rfl
  .apply(j,?_);rw[Y,ag (show ¬isSign z.m=true from hc),jF];omega
 .rw[ak,i4] at hd;apply(D,_,Á,.inl (aa.of hd),?_);rw[ak];generalize (ks.J λk=>isSign k.m).L=n at J;refine⟨_,Á,_,_,Á,Á,_,Á,a0 ū ū⟩
  .let h1:n<1:=by
    grind
   let q:=k H' j;rw[J,ah (Or.inl h1)] at q;exact q
  .let h1:¬n<1:=by
    grind
   refine⟨_,Á,_,_,Á,Á,_,Á,a0 Àw Àw⟩
   .let h2:n>48:=by
     lia
    let q:=k H' j;rw[J,ah (Or.inr h2)] at q;exact q
   .let h2:¬n>48:=by
     lia
    rw[ag (λz=>z.elim h1 h2)] at J;apply(_,Á,_,Á,p,_,Á,aa.of (j _ _ M),λc hc=>?_);let ex:pN (ks.M λk=>V.ref k.a) (some 1) none=(ks.drop 1).M λk=>V.ref k.a:=by
     by_cases hz:1<=ks.L
     .rw[show(1:Int)=((1:Nat):Int) from rfl,DM _ Å,RR]
     .let:ks=[]:=by
       symm
      rw[this];rfl
    rw[ex];let s2:=j.R (aG (o:=.lst ((ks.drop 1).M λk=>V.ref k.a)) hc);let O:(upd H' c (.lst ((ks.drop 1).M λk=>V.ref k.a))) c=Α (.lst ((ks.drop 1).M λk=>V.ref k.a)):=aq;generalize upd H' c (.lst ((ks.drop 1).M λk=>V.ref k.a))=H2 at s2 O;apply(c,_,Á,aa.of O,λW ck=>mh (K:=K) (a:=c) (xs:=(ks.drop 1).M λk=>V.ref k.a) (cy H2 W λi y ns=>ns=[]/\∃a b,ks[i]? =Α a/\ks[i+1]? =Α b/\y=.bl (iY a.m b.m)) Ác (λi H3 _ f=>aa.of (f.E _ _ O)) (λi y Tt H3 hi f hT=>?_) Àx)
    .let(b,hb,rfl):=Hk hi;rw[abd] at hb;let hb:ks[i+1]? =Α b:=by rw[<-hb];congr 1;lia
     let hib:=(bo.mp hb).1;obtain⟨a,ha⟩:∃a,ks[i]? =Α a:=⟨_,cI Î⟩;let s3:ai H3 (upd H3 Tt (.tup [.int (i:Nat),.ref b.a])):=aG hT;let U:=(s2.R f.E).R s3;refine à;exact(_,Á,_,Á,p,_,(i:Int),.ref a.a,Á,Á,aa.of (U _ _ M),fZ Å,_,Á,a,b,Á,(nY hk (bj ha)).E U,(nY hk Èt).E U,λH5 s5=>(f.step ck Î (s3.R s5) ⟨Á,a,b,ha,hb,Á⟩ aU.nil Ä))
    .let(ys,s3,iK,A3,fl):=f.end;let hz:((ks.M au.m).zip ((ks.M au.m).drop 1)).L=ys.L:=by
      symm
     let ey:ys=(((ks.M au.m).zip ((ks.M au.m).drop 1)).M λp=>iY p.1 p.2).M V.bl:=by
      rw[cj];apply ug hz.symm λi y x h1 h2=>?_;let(ns,(_,a,b,ea,eb,e),_):=fl i y h1;grind
     apply(W,_,Á,by rw[<-ey];exact aa.of iK,?_);let q:=k H3 ğ;symm
end
theorem y6{β:Type}{v:β->V}{nd:β->jo}{H:Hp}{ys:ay}:∀{R:Nat->β->Prop},Lj (λi y ns=>∃b,R i b/\y=v b/\ns=nd b) H ys->∃bs:List β,ys=bs.M v/\(∀(i:Nat)(b:β),bs[i]? =Α b->R i b)/\∀b∈bs,aU H (nd b):=by
 induction ys with
 |nil=>exact @λR _=>⟨[],Á,λi b h=>by simp at h,by simp⟩
 |cons y ys q=>
  intro R h;let(ns,(b,r,e,en),l):=h 0 y rfl;let(bs,j,J,F):=q (R:=λi b=>R (i+1) b) λi z hz=>h (i+1) z hz;apply(b::bs,by rw[j,e];rfl,λi c hc=>?_,λc hc=>?_)
  .cases i with
   |zero=>
    let:=aQ hc;subst this;exact r
   |succ i=>exact J i c hc
  .rcases a8.mp hc with rfl|hc
   .rw[<-en];exact l
   .exact F c hc
theorem Wn{α:Type}{K:FR}{H:Hp}{v:α->V}{d:α->PyData}{l:List α}:(∀x∈l,Ál (v x) (d x))->jm K H (l.M v) (l.M d):=by
 induction l with
 |nil=>exact @λ_=>.nil
 |cons x l q=>
  intro h;exact .cons (h x Ä) (q λy j=>h y (aK _ j))
def xG(m:iq):PyData:=.list (m.name.M PyData.int)
def sD(m:iq):PyData:=.tuple [.int (m.shape:Nat),.list (m.look.M PyData.int)]
def pY(ms:aI):Bool:=!pX ((ms.J isSign).M xG)&& !pX Èo
def ajB(m:iq):SeqAt.shaped (sD m)=true:=by
 ext SeqAt.shaped sD;rw[jG,lY];refine Ϧ
 .simp only[PyData.canLay0,PyData.canLayAll0,Lf,JK]
 .let:=Lg m.look;simp only[PyData.depth,PyData.depthAll];lia
section
variable{P:Pg}{w:Wd}{K:FR}{mg:MG}{base:Heap}{CK CL CN N:Addr}
def DN:bC ["kinds","names","faces","kind"] ["kinds"] (ba Mg):=cg
def ajC{f:Addr}{fd:FD}(F:br K "are_different" "are_different" Mg f fd)(T:ud K CK)(cS:Cn mg "SIGN" œ)(dT:Ç 1 "has_twice" ["things"] (Wk K)):Ë 2 f fd ["kinds"] (Hl CK pY):=by
 refine F.ok DN Â;let(p,ks,rfl,W,hk,hl,k):=h;refine⟨_,aB (tQ (i:=1) (own:=[("kind",3)]) (tt:=mX (bQ pL (fj K Ŀ "role") Är)) (te:=fj K Ŀ "name") Á DN.nd Á Á Ð Åe Ê
   (λ_ _ _ _ _=>cZ 3 DN.nd) (λ_ _ _ _ _=>oE (cw iB Ãp Çm (bU _))) (λ_ _ _ _ _=>aX ö rfl))
  (aB (tQ (i:=2) (own:=[("kind",3)]) (te:=vt (a9 (fj K Ŀ "shape") (a9 (fj K Ŀ "look") dq))) rfl DN.nd rfl rfl Ð Åe Ê
   (λ_ _ _ _ _=>cZ 3 DN.nd) Ò (λ_ _ _ _ _=>rX (ae Ãp (ae Ãp af))))
  (aA (aV (vq (Ck (bx dT Ĺ)) (rS (Ck (bx dT ł))))))),?_⟩
 refine⟨_,Á,p,Á,⟨_,aa.of W⟩,λD hD=>fV (K:=K) (a:=p) (xs:=ks.M λk=>V.ref k.a) (λi H'=>ai H H'/\H' D=Α (.lst (((ks.take i).J λk=>isSign k.m).M λk=>V.ref k.nm))) ⟨aG hD,aq⟩
  (λi H' _ ⟨j,_⟩=>aa.of (j _ _ W)) (λi y H' hi ⟨j,hd⟩=>?_) (λH' ⟨j,hd⟩=>?_)⟩
 .let(z,hz,rfl):=Hk hi;let dm:=(bo.mp hz).1;let Y:=(nY hk (bj hz)).E j;refine⟨Á,_,Á,aY (jQ Y) T.c T.xB (xA z) Ļ⟩;rw[show V.int 0=V.int ((0:Nat):Int) from rfl,nF];let et:=A1 (p:=λk:au=>isSign k.m) hz;refine a0 Ï Ï
  .apply(_,Á,aY (jQ Y) T.c T.nName (V9 z) ⟨_,hd,?_,fc j hD,?_⟩)
   .rw[ak];let:=B3 (λk:au=>isSign k.m) (ks.take i);rw[iR] at this;exact f7 Î
   .rw[aq,et,ah (show isSign z.m=true from hc),bH];rfl
  .apply(j,?_);rw[et,ag (show ¬isSign z.m=true from hc),jF];omega
 .rw[ak,i4] at hd;refine⟨_,Á,p,Á,⟨_,aa.of (j _ _ W)⟩,λZ ck=>fV (K:=K) (a:=p) (xs:=ks.M λk=>V.ref k.a) (cy H' Z λi y ns=>∃b:Addr×au,ks[i]? =Α b.2/\y=.ref b.1/\ns=[(b.1,.tup [.int (b.2.m.shape:Nat),.ref b.2.lk])]) Ác
   (λi H2 _ f=>aa.of (f.E _ _ (j _ _ W))) (λi y H2 hi f=>?_) Æw⟩
  .let(z,hz,rfl):=Hk hi;let dm:=(bo.mp hz).1;let Y:=(nY hk (bj hz)).E (j.R f.E);apply(Á,eJ ⟨_,Á,aY (jQ Y) T.c T.yU (Wa z) ⟨_,Á,aY (jQ Y) T.c T.Wc (Wb z) ⟨(by show 2<=sizeLine;decide),λt ht=>?_⟩⟩⟩);apply f.step ck Î (aG ht) ⟨(t,z),hz,Á,Á⟩ ϩ λx hx=>?_
   .let:x=(t,_):=iS.mp hx;subst this;exact aq
   .let:x=(t,_):=iS.mp hx;subst this;exact λe=>f.has Å
  .let(ys,s2,df,jM,fl):=f.end;rw[ak] at jM;let(bs,e1,r1,l1):=y6 (v:=λb:Addr×au=>V.ref b.1) (nd:=λb:Addr×au=>[(b.1,.tup [.int (b.2.m.shape:Nat),.ref b.2.lk])]) (R:=λi b=>ks[i]? =Α b.2) fl;let O:=j.R s2;let eb:bs.M (·.2)=ks:=by
    apply yl;grind
   let hZ:∀{M:Hp},ai H2 M->jm K M ys ((ks.M au.m).M sD):=λ{M}J=>by
    rw[e1,<-eb,cj,cj];apply Wn λb U=>?_;let uh:b.2∈ks:=by rw[<-eb];exact zZ U
    refine .tup (bw.of (J _ _ (l1 b U (b.1,_) (iS.mpr Á)))) (.cons (.int _) (.cons (.lst (aa.of (J _ _ (O _ _ (Wm (nY hk uh))))) (qN _)) .nil))
   let ef:(ks.M au.m).J isSign=(ks.J λk=>isSign k.m).M au.m:=by
    rw[wI];rfl
   apply(_,Á,D,_,((ks.J λk=>isSign k.m).M au.m).M xG,Á,aa.of (s2 _ _ hd),?_,?_,?_,λM J=>⟨_,Á,_,Á,?_⟩)
   .rw[cj];exact Wn λb U=>(.lst (aa.of (O _ _ (Wl (nY hk ((iz.mp U).1))))) (qN _))
   .intro d hd;let(m,_,rfl):=bG.mp hd;exact shaped_ints _
   .grind
   .let q:=k;delta pY at q;rw[ef] at q;refine a0 Ï Ï
    .rw[hc] at q;apply(_,Á,Z,_,(ks.M au.m).M sD,Á,aa.of (J _ _ df),hZ J,λd hd=>?_,by simp_all,λH4 s4=>⟨_,rfl,q H4 ((O.R J).R s4)⟩);let(m,_,rfl):=bG.mp hd;exact ajB m
    .let hc:(!pX (((ks.J λk=>isSign k.m).M au.m).M xG))=false:=by simpa using hc
     rw[hc,mG] at q;exact q M (O.R J)
end
def hJ:dJ->Option aI
 |[]=>some []
 |l::r=>match iX l,hJ r with
  |some m,some ms=>some (m::ms)
  |_,_=>none
theorem Wo{r:dJ}:∀{l:LI},l∈r->iX l=Β->hJ r=Β:=by
 induction r with
 |nil=>intro l h;cases h
 |cons x r j=>
  intro l h e;ext hJ;rcases a8.mp h with rfl|h
  .rw[e]
  .rw[j h e];cases iX x <;> rfl
theorem ajD{r:dJ}:∀{ms:aI},ms.L=r.L->(∀(i:Nat)l m,r[i]? =Α l->ms[i]? =Α m->iX l=Α m)->hJ r=Α ms:=by
 induction r with
 |nil=>
  intro ms h _;cases ms with
  |nil=>rfl
  |cons _ _=>cases h
 |cons l r q=>
  intro ms h k;cases ms with
  |nil=>cases h
  |cons m ms=>
   ext hJ;rw[k 0 l m rfl rfl,q (ms:=ms) (À h) λi l m j h2=>k (i+1) l m j h2]
def A4(n:Option LI)(ks:Option aI):Option (LI×aI):=match n,ks with
 |some n,some ms=>if (oN ms&&pY ms)=true then some (n,ms) else none
 |_,_=>none
def gM(j:LI):Option (LI×aI):=match kH j with
 |some (l::r)=>A4 (fJ (codes "locker") l) (hJ r)
 |_=>none
def DO:A4 n none=Β:=by cases n <;> rfl
def DP:A4 none ks=Β:=by cases ks <;> rfl
def ui(CL CK:Addr)(l:vO):jo:=(l.a,.ins CL l.dx (Hd l))::(l.nm,.lst (iv l.name))::(l.kl,.lst (l.kinds.M λk=>V.ref k.a))::AY CK l.kinds
inductive Wp(K:FR)(CL CK CN:Addr)(vs:ay)(H:Hp)(Q:VK)(E:XK):Prop
 |mk (ap:Addr) (bY:LI) (_:vs=[.ref ap]) (_:ä ap (iv bY)) (_:bY.L<=66000) (_:(∀x,gM bY=Α x->∀H' l,ai H H'->l.name=x.1->l.kinds.M au.m=x.2->aU H' Äb->l.kinds.L<=66000->Q (.ref l.a) H')) (_:(gM bY=Β->No E CN H))
section
variable{P:Pg}{w:Wd}{K:FR}{mg:MG}{base:Heap}{CK CL CN N:Addr}
def DQ:bC ["text","lines","name","kinds","line"] ["text"] (ba Ma):=cg
def ajE{f:Addr}{fd:FD}(F:br K "read_locker" "read_locker" Ma f fd)(X:Ğ "NoLocker" CN N)(dW:Ç 2 "whole_lines" ["text"] (NW K)) (dN:Ç 4 "name_behind" ["title","line"] (NV K)) (dK:Ċ Ē 5 "read_kind" ["line"] (Ob K CK CN))(dO:Ç 2 ahY ["kinds"] (Hl CK oN)) (dD:Ç 2 "are_different" ["kinds"] (Hl CK pY)) (dL:Ā "Locker" CL ["name","kinds"]):
  aZ P w K mg base Ē 6 f fd ["text"] (Wp K CL CK CN):=by
 let(fK,fdK,GK,mK,kK,bK):=dK;refine F.qL DQ Â;let(ap,z,rfl,hP,hl,k1,k2):=h;refine⟨_,aB (cf 1 DQ.nd (bx dW õ))
  (aB (dj (PW.pt (pw_or (pH (rR á)) (pw_or1 (cw ť á Ĩ (bU _))))) Ý dQ)
  (aB (cf 2 DQ.nd (bx dN (ae FE Ş)))
  (aB (UX (i:=3) (own:=[("line",4)]) (g:=qC 4) (tt:=CO) (te:=g8 (Ob K CK CN) [] E (a9 Ãt dq)) rfl yM DQ.nd rfl rfl Ð (dX (wW wY á (wV bc) wU)) Ê
   (λ_ _ _ _ _=>cZ 4 DQ.nd) Ò (λ_ _ _ _ _=>nH GK hr rfl mK kK bK .nil sk ŝ))
  (aB (dj (PW.pt (pw_or Çe (pw_or (qB (jh (bx dO ĳ))) (pw_or1 (qB (jh (bx dD ĳ)))))))
   (Ý) dQ)
  (aA (aV (pV dL hr (ae å ĳ)))))))),?_⟩
 apply(_,Á,ap,z,Á,hP,by lia,λH1 v s1 W=>?_);let Oi:∀L,kH z=Α L->L.L<=66000/\∀w∈L,w.L<=100000:=λL e=>by
  delta kH at e;split at e
  .let e:=aQ e;subst e;apply(?_,λw hw=>?_)
   .rw[aa8];let:=GQ 10 z;omega
   .let:=yS 10 z w (B1 _ hw);lia
  .symm
 let el:gM z=match kH z with
   |some (l::r)=>A4 (fJ (codes "locker") l) (hJ r)
   |_=>none:=rfl
 cases ew:kH z with
 |none=>
  rw[ew] at W el;let W:=W;subst W;exact(_,Á,_,Á,lp (gc ((k2 el).go s1)))
 |some L=>
  let(hL1,nX):=Oi L ew;rw[ew] at W el;let(p,qs,rfl,l5,hp,qY,fr):=W;apply(_,Á,_,Á,oG ⟨_,Á,di _,λO n1=>?_⟩);let s2:=aG (o:=.lst []) n1;let oJ:=s2 _ _ hp;let Oj:=qY.E s2;let fA:=s1.R s2;let Gx:(upd H1 O ã) O=Α ã:=aq;generalize upd H1 O ã=H2 at s2 oJ Oj fA Gx;refine⟨p,O,_,Á,Á,aa.of oJ,aa.of Gx,_,Á,a0 Ï Ï⟩
  .let hq:qs=[]:=by
    symm
   subst hq;cases Oj;exact gc ((k2 el).go fA)
  .cases Oj with
   |nil=>symm
   | @cons q l qs r hq wz=>
    let wz:eU H2 qs r:=wz;let el:gM z=A4 (fJ (codes "locker") l) (hJ r):=el;let oK:r.L<=66000:=by simp only[dg] at hL1;lia
    let uj:=wz.len;apply⟨_,Á,p,_,0,V.ref q,Á,Á,aa.of oJ,fZ (j:=0) Á,"locker",q,l,Á,by decide,aa.of hq,nX l Ä,λH3 vn s3 U=>?_⟩;let lE:=fA.R s3;apply(_,Á,_,Á,p,_,Á,aa.of (s3 _ _ oJ),λc hc=>?_);rw[show pN ((q::qs).M V.ref) (some 1) none=qs.M V.ref from(DM _ (i:=1) Ä).R rfl];let s4:=aG (o:=.lst Äu) hc;let jL:(upd H3 c Ĕ) c=Α Ĕ:=aq;generalize upd H3 c Ĕ=H4 at s4 jL;let mf:=lE.R s4;let ajG:=wz.E (s3.R s4);refine⟨c,Á,⟨_,aa.of jL⟩,λD hD=>fV (K:=K) (a:=c) (xs:=qs.M V.ref) (cy H4 D λi y ns=>∃b:au,(∀l,r[i]? =Α l->iX l=Α b.m)/\y=.ref b.a/\ns=lH CK b) Ď
     (λi H5 _ f=>aa.of (f.E _ _ jL)) (λi y H5 hi f=>?_) (λH5 f=>?_)⟩
    .rw[bz] at hi;cases eq:qs[i]? with
     |none=>symm
     |some qi=>
      rw[eq] at hi;let ey:=aQ hi;subst ey;let dm:=(bo.mp eq).1;let(q',_,M,h'):=ajG.at (j:=i) Å;rw[bz,eq] at M;let M:=aQ M;injection M with M;subst M;let rZ:r[i]? =Α (r.D i []):=by
       symm
      let nZ:=bj rZ;apply(Á,eJ ⟨_,Á,qi,r.D i [],Á,aa.of (f.E _ _ h'),nX _ (aK _ nZ),λm em H6 kd J ek hkd qH=>?_,λen=>?_⟩)
      .apply f.step hD Î J ⟨kd,λl hl=>?_,Á,Á⟩ hkd λx hx e=>f.has (by grind);symm
      .exact(k2 (by rw[el,Wo nZ en,DO])).go (mf.R f.E)
    .let(ys,s5,uk,Wq,fl):=f.end;rw[ak] at Wq;let(ks,O,r1,l1):=y6 (v:=λb:au=>V.ref b.a) (nd:=lH CK) (R:=λi b=>∀l,r[i]? =Α l->iX l=Α b.m) fl;subst O;rw[ak] at Wq;let Ol:hJ r=Α Ì:=ajD Å λi l m h1 h2=>by
      grind
     rw[Ol] at el;let uf:=mf.R s5;let Om:=ajy l1;cases en:fJ (codes "locker") l with
     |none=>
      rw[en,DP] at el;rw[en] at U;let U:=U;subst U;exact(_,Á,_,Á,lp (gc ((k2 el).go uf)))
     |some nm=>
      rw[en] at U el;let(an,rfl,Hm,nG):=U;let el:gM z=if (oN Ì &&pY Ì)=true then some (nm,ks.M au.m) else none:=el;apply(_,Á,_,Á,oG ⟨_,Á,D,ks,Á,uk,Om,by lia,λH6 J=>⟨_,rfl,a0 (λY=>?_) (λY=>?_)⟩⟩)
      .simp at Y;rw[Y,mG,ag Ñ] at el;exact gc ((k2 el).go (uf.R J))
      .simp at Y;refine⟨_,Á,D,ks,Á,J _ _ uk,Om.E J,by omega,λH7 s7=>⟨_,rfl,a0 ģ ģ⟩⟩
       .simp at hd;rw[hd,zV,ag Ñ] at el;exact gc ((k2 el).go ((uf.R J).R s7))
       .simp at hd;rw[Y,hd,JK,ah rfl] at el;let Z:=J.R s7;apply(_,Á,_,Á,xE Á λx dx H8 hx gU aL e8 s8=>?_);refine k1 _ el H8 ⟨x,dx,an,D,nm,ks⟩ ((uf.R Z).R s8) Á Á Âm Å;simp only[ui,a8] at hy;rcases hy with rfl|rfl|rfl|hy
        .exact e8
        .exact s8 _ _ (Z _ _ (s5 _ _ (s4 _ _ nG)))
        .exact s8 _ _ (Z _ _ uk)
        .exact(Om.E (Z.R s8)) y hy
end
end HD
namespace HD
open PySem PySem.Spec PyProof.Rows L2
def getD_map{α β:Type}{f:α->β}{l:List α}{i:Nat}{a:α}{d:β}(h:l[i]? =Α a):(l.M f).D i d=f a:=by
 symm
def getD_at{α:Type}{l:List α}{i:Nat}{a d:α}(h:l[i]? =Α a):l.D i d=a:=by
 symm
def gf(look:LI):Prop:=look.L=16/\∀x∈look,0<=x/\x<16
def getD_mem{l:LI}{i:Nat}(h:i<l.L):l.D i 0∈l:=by
 symm
def ajI{signs part l:LI}(h:kC signs part=Α l):l.L=part.L/\∀x∈l,0<=x/\x<signs.L:=by
 delta kC at h;grind
def ajJ(h:iX line=Α m):m.shape<3/\gf m.look:=by
 delta iX pW at h;split at h
 .cases h
 .rename_i r O;by_cases F:(JM.aN 32 line).L=(if r=2 then 4 else 5)
  .rw[ah F] at h;generalize m9 r _=j at h;generalize sA r _=q at h;generalize iL _ 8=z at h;cases e4:bV Ć ((JM.aN 32 line).D ((JM.aN 32 line).L-2) []) with
   |none=>rw[e4,Hg] at h;cases h
   |some sh=>
    rw[e4] at h;cases e5:iF ((JM.aN 32 line).D ((JM.aN 32 line).L-1) []) with
    |none=>rw[e5,Hh] at h;cases h
    |some lk=>
     rw[e5] at h
     match j,q,z,h with
     |some n,some w,some c,h=>
      let:=aQ h;subst this;apply(AZ e4,?_);delta iF at e5;split at e5
      .rename_i M;let(J,p2):=ajI e5;exact(J.R M,p2)
      .cases e5
  .symm
end HD
namespace HD
open PySem JM
def DR{p:Int->Bool}(h:((List.range 256).all λn=>p ((n:Nat):Int))=true)(j:0<=x/\x<=255):p x=true:=by
 let:=jH.mp h x.toNat (u7.mpr Î);grind
def eqB(j:bq a)(q:bq ũ)(e:(codes x).M B=Flags.ascii s):(a.M B=Flags.ascii s)↔a=codes x:=by
 rw[<-e];exact(λz=>xt j q z,λz=>by rw[z])
def vR(h:(codes x).all (λx=>decide (0<=x)&&decide (x<=255))=true):bq ũ:=GO h
def hexVal(h:0<=x/\x<=255):Flags.hexValue (B x)=if mj.Y x=true then some (mj.idxOf x) else none:=by
 let:=DR (p:=λx=>decide (Flags.hexValue (B x)=if mj.Y x=true then some (mj.idxOf x) else none)) É h;symm
def ajK(h:0<=x/\x<=255):Flags.isSign (B x)=(codes AX).Y x:=by
 let:=DR (p:=λx=>decide (Flags.isSign (B x)=(codes AX).Y x)) É h;symm
theorem ajL{l:LI}:bq l->(l.M B).mapM Flags.hexValue=if l.all Ãy=true then some (l.M λb=>mj.idxOf b) else none:=by
 induction l with
 |nil=>exact @λ_=>Á
 |cons x r q=>
  intro h;let q:=q λz hz=>h z (aK _ hz);rw[a7,JN,hexVal (h x eO),q,tq];by_cases j:mj.Y x=true
  .rw[ah j,j,nt];by_cases h2:r.all Ãy=true
   .rw[ah h2,ah h2];rfl
   .rw[ag h2,ag h2];rfl
  .rw[ag j];let j:mj.Y x=false:=by simpa using j
   rw[j,mG,ag eN];rfl
def c7(l:LI):Nat:=Flags.lookOf λi=>(l.D i 0).toNat
def Wr{l:LI}(h:bq l):Flags.lookIn Ľ=(iF l).M c7:=by
 ext Flags.lookIn iF;rw[ak];by_cases e:l.L=16
 .rw[ag (λq=>q e),ah e,ajL h];ext kC;by_cases h2:l.all Ãy=true
  .rw[ah h2,ah h2];apply b9 (λf=>some (Flags.lookOf f)) (funext λi=>?_);rw[ij,ij,bz,bz];cases l[i]? with
   |none=>rfl
   |some x=>rfl
  .rw[ag h2,ag h2];rfl
 .rw[ah e,ag e];rfl
def Hq(h:bq l):Flags.isName Ľ=iW l:=by
 ext Flags.isName iW;rw[ak,rH,show l.all (Flags.isSign∘B)=l.all λb=>(codes AX).Y b from LM h λx j=>ajK j]
theorem digit_eq(h:bq l)(M:Nat):Flags.digitOf M Ľ=(iL l (M:Int)).M Int.toNat:=by
 ext Flags.digitOf iL
 match l,h with
 |[],_=>rfl
 |[d],h=>
  let hd:=h d eO;show(if 49<=(B d).toNat/\(B d).toNat<=48+M then some ((B d).toNat-48) else none)=Option.map Int.toNat (if d<49\/d>48+(M:Int) then none else some (d-48));rw[LL hd];by_cases c:d<49\/d>48+(M:Int)
  .rw[ah c,ag Î];rfl
  .rw[ag c,ah Å];congr 1;grind
 |a::b::r,_=>rfl
def Ws(a b c w:LI):bV [a,b,c] w=if a=w then some 0 else if b=w then some 1 else if c=w then some 2 else none:=by
 ext bV;grind
def ajM(h:bq w):Flags.shapeOf Ĳ=bV Ć w:=by
 ext Flags.shapeOf;show _=bV [codes "square",codes "tails",codes "long"] w;rw[Ws];let j:=eqB (a:=w) (x:="square") (s:="square") h Æy É;let q:=eqB (a:=w) (x:="tails") (s:="tails") h Æy É;let z:=eqB (a:=w) (x:="long") (s:="long") h Æy É;grind
def qZ(m:iq):Flags.Role:=if m.role=0 then .sign (m.name.M B) else if m.role=1 then .same m.lG.toNat else .answer
def bJ(m:iq):Flags.Kind:=⟨qZ m,m.copies.toNat,m.shape,c7 m.look⟩
def On(hc:bq c)(hs:bq s)(j:bq l)(R:Flags.Role)(q:∀a b d,qZ ⟨r,n,wh,a,b,d⟩=R):
  Flags.kindOf R Æp (s.M B) Ľ=(sC r (some n) (some wh) (iL c 8) (bV Ć s) (iF l)).M bJ:=by
 ext Flags.kindOf;rw[show Flags.digitOf 8 Æp=(iL c 8).M Int.toNat from digit_eq hc 8,ajM hs,Wr j];cases e1:iL c 8 with
 |none=>rfl
 |some a=>
  cases e2:bV Ć s with
  |none=>rfl
  |some b=>
   cases e3:iF l with
   |none=>rfl
   |some d=>
    show some _=Α (bJ ⟨r,n,wh,a,b,d⟩);ext bJ;symm
def ajN{line:LI}(h:bq line):Flags.kindIn (line.M B)=(iX line).M bJ:=by
 ext Flags.kindIn iX;rw[show Flags.cutAt 32 (line.M B)=(aN 32 line).M ë from yR 32 Ñ line h];let q:=qS 32 (l:=line) h;generalize aN 32 line=ws at q;let rm:∀w:LI,bV Ϛ w=if codes "sign"=w then some 0 else if codes "same"=w then some 1 else if codes "answer"=w then some 2 else none:=λw=>Ws _ _ _ w;let d1:¬codes "sign"=codes "same":=by decide+kernel
 let d2:¬codes "sign"=codes "answer":=by decide+kernel
 let d3:¬codes "same"=codes "answer":=by decide+kernel
 let short:∀v:dJ,v.L≠4->v.L≠5->pW v=Β:=λv h4 h5=>by
  ext pW;split
  .rfl
  .rename_i r _;rw[ag];by_cases z:r=2
   .rw[ah z];exact h4
   .rw[ag z];exact h5
 match ws,q with
 |[],_=>rw[short [] Ñ Ñ];rfl
 |[a],_=>rw[short [a] Ä Ä];rfl
 |[a,b],_=>rw[short [a,b] Ä Ä];rfl
 |[a,b,c],_=>rw[short [a,b,c] Ä Ä];rfl
 |[a,c,s,l],q=>
  let U:=q a Ä;let ea:=eqB (a:=a) (x:="answer") (s:="answer") U Æy É;show(if a.M B=Flags.ascii "answer" then Flags.kindOf .answer Æp (s.M B) Ľ else none)=_;let Y:pW [a,c,s,l]=if codes "answer"=a then sC 2 (some []) (some 0) (iL c 8) (bV Ć s) (iF l) else none:=by
   ext pW;rw[show([a,c,s,l]:dJ).D 0 []=a from rfl,rm a];by_cases F:codes "sign"=a
   .rw[ah F,ag (λz=>d2 (F.R z.symm))];rfl
   .rw[ag F];by_cases J:codes "same"=a
    .rw[ah J,ag (λz=>d3 (J.R z.symm))];rfl
    .rw[ag J];by_cases M:codes "answer"=a
     .rw[ah M,ah M];rfl
     .rw[ag M,ag M]
  rw[Y];by_cases M:a=codes "answer"
  .rw[ah (ea.mpr M),ah M.symm];exact On (q c Ä) (q s Ä) (q l Ä) .answer λ_ _ _=>Á
  .rw[ag (λz=>M (ea.mp z)),ag (λz:codes "answer"=a=>M z.symm)];rfl
 |[a,n,c,s,l],q=>
  let U:=q a Ä;let hn:=q n Ä;let Z:=eqB (a:=a) (x:="sign") (s:="sign") U Æy É;let W:=eqB (a:=a) (x:="same") (s:="same") U Æy É;show(if a.M B=Flags.ascii "sign"/\Flags.isName Ég=true then Flags.kindOf (.sign Ég) Æp (s.M B) Ľ else if a.M B=Flags.ascii "same" then (Flags.digitOf 4 Ég).bind (λ(j:Nat)=>Flags.kindOf (.same j) Æp (s.M B) Ľ) else none)=_;let Y:pW [a,n,c,s,l]=if codes "sign"=a then sC 0 (m9 0 n) (some 0) (iL c 8) (bV Ć s) (iF l) else if codes "same"=a then sC 1 (some []) (iL n 4) (iL c 8) (bV Ć s) (iF l) else none:=by
   ext pW;rw[show([a,n,c,s,l]:dJ).D 0 []=a from rfl,rm a];by_cases F:codes "sign"=a
   .rw[ah F,ah F];rfl
   .rw[ag F,ag F];by_cases J:codes "same"=a
    .rw[ah J,ah J];rfl
    .rw[ag J,ag J];by_cases M:codes "answer"=a
     .rw[ah M];rfl
     .rw[ag M]
  rw[Y,Hq hn];by_cases F:a=codes "sign"
  .rw[ah F.symm];by_cases O:iW n=true
   .rw[ah ⟨Z.mpr F,O⟩,show m9 0 n=Α n by ext m9;rw[ah rfl,ah O]];exact On (q c Ä) (q s Ä) (q l Ä) (.sign Ég) λ_ _ _=>Á
   .rw[ag (λz=>O z.2),ag (λz=>d1 (F.symm.R (W.mp z))),show m9 0 n=Β by ext m9;rw[ah rfl,ag O],He];rfl
  .rw[ag (λz:_/\_=>F (Z.mp z.1)),ag (λz:codes "sign"=a=>F z.symm)];by_cases J:a=codes "same"
   .rw[ah (W.mpr J),ah J.symm,show Flags.digitOf 4 Ég=(iL n 4).M Int.toNat from digit_eq hn 4];cases e:iL n 4 with
    |none=>rw[Hf];rfl
    |some j=>
     exact On (q c Ä) (q s Ä) (q l Ä) (.same j.toNat) λ_ _ _=>Á
   .rw[ag (λz=>J (W.mp z)),ag (λz:codes "same"=a=>J z.symm)];rfl
 |a::b::c::d::e::g::r,_=>rw[short _ Ä Ä];rfl
def oO:LN->Nat
 |[]=>0
 |d::r=>d%16+16*oO r
theorem ajO(x:Nat):∀l:LN,oO (l++[x])=oO l+16^l.L*(x%16):=by
 intro l;induction l with
 |nil=>
  simp[oO]
 |cons d r j=>
  show d%16+16*oO (r++[x])=d%16+16*oO r+16^(r.L+1)*(x%16);rw[j,Nat.mul_add,z4,<-Nat.mul_assoc,Nat.mul_comm 16 (16^r.L)];lia
theorem ajP(f:Nat->Nat):∀n,((List.range n).M λi=>f i%16*16^i).sum=oO ((List.range n).M f):=by
 intro n;induction n with
 |zero=>exact Á
 |succ n j=>
  rw[JQ,bH,bH,Ft,j];show _+(f n%16*16^n+0)=oO (_++[f n]);rw[ajO,ak,ik,Nat.mul_comm (16^n)];rfl
theorem Wt:∀(i:Nat)(l:LN),oO l/16^i%16=l.D i 0%16
 |i,[]=>by simp[oO]
 |0,d::r=>by
  show(d%16+16*oO r)/16^0%16=d%16;rw[Nat.pow_zero,Nat.div_one];symm
 |i+1,d::r=>by
  show(d%16+16*oO r)/16^(i+1)%16=r.D i 0%16;rw[Nat.pow_succ',<-Nat.div_div_eq_div_mul,show(d%16+16*oO r)/16=oO r by lia];exact Wt i r
def DS(f:Nat->Nat)(h:i<16):Flags.cell (Flags.lookOf f) i=f i%16:=by
 ext Flags.cell Flags.lookOf;rw[ajP,Wt,ij,bz,RW h];rfl
def DT(h:gf l)(hi:i<16):Flags.cell (c7 l) i=(l.D i 0).toNat:=by
 ext c7;rw[DS _ hi];let(j,q):=h.2 _ (getD_mem (l:=l) (i:=i) (by rw[h.1];exact hi));symm
def ajQ{a b:LI}(j:gf a)(q:gf b)(e:c7 a=c7 b):a=b:=by
 apply yl;intro i;by_cases hi:i<16
 .let z:=DT j hi;let h2:=DT q hi;rw[e,h2] at z;let ga:=j.2 _ (getD_mem (l:=a) (i:=i) (by rw[j.1];exact hi));let F:=q.2 _ (getD_mem (l:=b) (i:=i) (by rw[q.1];exact hi));let:a.D i 0=b.D i 0:=by grind
  rw[ij,ij,cI (by rw[j.1];exact hi),cI (by rw[q.1];exact hi)] at this;rw[cI (by rw[j.1];exact hi),cI (by rw[q.1];exact hi)];exact b9 some this
 .rw[yk (by rw[j.1];symm),yk (by rw[q.1];omega)]
structure Kv(m:iq):Prop where
 role:m.role<3
 Wu:m.role≠1->m.lG=0
 DU:m.role=1->1<=m.lG/\m.lG<=4
 nm:bq m.name
 lk:gf m.look
 sh:m.shape<3
 cp:1<=m.copies/\m.copies<=8
def Wv(h:iL w most=Α d):1<=d/\d<=most:=by
 delta iL at h;grind
def Ww{line:LI}(U:bq line){m:iq}(h:iX line=Α m):Kv m:=by
 let(M,W):=ajJ h;delta iX pW at h;let F:=qS 32 (l:=line) U;generalize aN 32 line=ws at h F;split at h
 .cases h
 .rename_i r O;let hr:r<3:=AZ O;by_cases J:ws.L=(if r=2 then 4 else 5)
  .rw[ah J] at h;let j:bq Ŗ:=by
    rw[ij];cases e:ws[1]? with
    |none=>exact λx q=>absurd q Ä
    |some w=>exact F w (bj e)
   cases e1:m9 r Ŗ with
   |none=>rw[e1,He] at h;cases h
   |some n=>
    cases e2:sA r Ŗ with
    |none=>rw[e2,Hf] at h;cases h
    |some Y=>
     cases e3:iL (ws.D (ws.L-3) []) 8 with
     |none=>rw[e3,Oa] at h;cases h
     |some c=>
      cases e4:bV Ć (ws.D (ws.L-2) []) with
      |none=>rw[e4,Hg] at h;cases h
      |some sh=>
       cases e5:iF (ws.D (ws.L-1) []) with
       |none=>rw[e5,Hh] at h;cases h
       |some lk=>
        rw[e1,e2,e3,e4,e5] at h;let:=aQ h;subst this;apply(hr,λz=>?_,λz=>?_,?_,W,M,Wv e3)
        .delta sA at e2;rw[ag z] at e2;exact(aQ e2).symm
        .delta sA at e2;rw[ah z] at e2;exact Wv e2
        .delta m9 at e1;split at e1
         .split at e1
          .rw[<-aQ e1];exact j
          .cases e1
         .rw[<-aQ e1];exact λx q=>absurd q Ä
  .rw[ag J] at h;cases h
theorem Oo{r:dJ}:∀{ms:aI},(∀l∈r,bq l)->hJ r=Α ms->∀m∈ms,Kv m:=by
 induction r with
 |nil=>
  intro ms _ h m j;let:=aQ h;subst this;exact absurd j Ä
 |cons l r F=>
  intro ms q h m j;delta hJ at h;cases e1:iX l with
  |none=>rw[e1] at h;cases hJ r <;> cases h
  |some k=>
   rw[e1] at h;cases e2:hJ r with
   |none=>rw[e2] at h;cases h
   |some ks=>
    rw[e2] at h;let:=aQ h;subst this;rcases a8.mp j with rfl|j
    .exact Ww (q l Ä) e1
    .exact F (λz hz=>q z (aK _ hz)) e2 m j
def um(kp:Kv p)(kx:Kv x)(h:x.role=0):iY p x=true↔p.role=0:=by
 ext iY;by_cases c:p.role=0/\x.role=0
 .symm
 .rw[ag c,HT.vy];symm
def xH(kp:Kv p)(kx:Kv x)(h:x.role=1):iY p x=true↔p.role=0\/(p.role=1/\p.lG<x.lG):=by
 ext iY;rw[ag (λz=>by simp_all),HT.vy];by_cases c:((p.role:Nat):Int)=((x.role:Nat):Int)
 .rw[ah c,HT.vy];by_cases d:p.lG=x.lG
  .rw[ah d];constructor
   .intro z;cases z
   .lia
  .lia
 .grind
def Hr{p x:iq}(kp:Kv p)(kx:Kv x)(h:x.role=2):iY p x=true↔ ¬p.role=2:=by
 ext iY;let j:=kx.Wu Å;rw[ag (λz=>by simp_all),HT.vy];by_cases c:((p.role:Nat):Int)=((x.role:Nat):Int)
 .let h2:=kp.Wu Î;rw[ah c,HT.vy,ah (by rw[j,h2])];constructor
  .intro z;cases z
  .intro z;lia
 .rw[ag c,lY];let:=kp.role;lia
def ajS{a b c:iq}(F:Kv a)(z:Kv b)(kc:Kv c)(j:iY a b=true)(h2:iY b c=true):iY a c=true:=by
 let U:=z.role;let hc:=kc.role;let J:b.role=0\/b.role=1\/b.role=2:=by lia
 let q:c.role=0\/c.role=1\/c.role=2:=by lia
 rcases q with q|q|q
 .rw[um z kc q] at h2;rw[um F z h2] at j;rw[um F kc q];exact j
 .rw[xH z kc q] at h2;rw[xH F kc q];rcases h2 with h2|⟨h2,M⟩
  .rw[um F z h2] at j;exact .inl j
  .rw[xH F z h2] at j;rcases j with j|⟨j,O⟩
   .exact .inl j
   .exact .inr ⟨j,by lia⟩
 .rw[Hr z kc q] at h2;rw[Hr F kc q];rcases J with J|J|J
  .rw[um F z J] at j;symm
  .rw[xH F z J] at j;lia
  .exact absurd J h2
theorem Oq:∀{ms:aI},(∀m∈ms,Kv m)->(((ms.zip (ms.drop 1)).all λp=>iY p.1 p.2)=true↔ms.Pairwise λp x=>iY p x=true)
 |[],_=>by simp
 |[a],_=>by simp
 |a::b::r,h=>by
  let J:=Oq (ms:=b::r) λm F=>h m (aK _ F);let z:(a::b::r).zip ((a::b::r).drop 1)=(a,b)::(b::r).zip ((b::r).drop 1):=rfl;rw[z,tq,jG,J,JR (a:=a)];constructor
  .rintro⟨j,h2⟩;apply(λy q=>?_,h2);rcases a8.mp q with rfl|q
   .exact j
   .exact ajS (h a Ä) (h b Ä) (h y (by simp[q])) j ((JR.mp h2).1 y q)
  .rintro⟨j,h2⟩;exact(j b Ä,h2)
theorem pw_place{α:Type}{R:α->α->Prop}{l:List α}:l.Pairwise R↔ ∀(i:Nat)x,l[i]? =Α x->∀p∈l.take i,R p x:=by
 induction l with
 |nil=>
  simp
 |cons a r F=>
  rw[JR,F];constructor
  .rintro⟨z,h2⟩ i x q p j;cases i with
   |zero=>simp at j
   |succ i=>
    rw[RT] at j;rcases a8.mp j with rfl|j
    .exact z x (bj q)
    .exact h2 i x q p j
  .intro h;apply(λx q=>?_,λi x q p j=>h (i+1) x q p (by rw[RT];exact aK _ j));let(i,hi,e):=nr q;exact h (i+1) x (by show r[i]? =Α x;rw[cI hi,e]) a (by rw[RT];simp)
def Os{j:List PyData}:pX j=false↔j.Pairwise λd e=>PyData.eqv d e=false:=by
 rw[pw_place];ext pX;rw[List.any_eq_false];constructor
 .intro h i x q p z;let hi:=(bo.mp q).1;let:=h i (u7.mpr hi);delta yZ at this;symm
 .intro h i hi;let hi:=u7.mp hi;obtain⟨x,q⟩:∃x,j[i]? =Α x:=⟨_,cI hi⟩;let:=h i x q;ext yZ;symm
def Ot(a b:iq):PyData.eqv (xG a) (xG b)=decide (a.name=b.name):=L2.xn _ _
def Wx(a b:iq):PyData.eqv (sD a) (sD b)=(decide (a.shape=b.shape)&&decide (a.look=b.look)):=by
 ext sD;simp only[PyData.eqv,PyData.eqvAll,L2.xn,RX];grind
def Wy(p x:iq):Prop:=p.role=0/\x.role=0/\p.name=x.name
def Hs(p x:iq):Prop:=p.shape=x.shape/\p.look=x.look
def y8(ps:aI)(x:iq):Prop:=(∀p∈ps,iY p x=true/\¬Wy p x/\¬Hs p x)/\(x.role=0->ps.L<48)
def four{A B C D:Bool}{w x y z:Nat}:(if A=true then some w else if B=true then some x else if C=true then some y else if D=true then some z else none)=Β↔A=false/\B=false/\C=false/\D=false:=by
 grind
def y9(m:iq):(bJ m).isSign=decide (m.role=0):=by
 ext bJ Flags.Kind.isSign qZ;grind
def za(h:m.role=0):(bJ m).role=.sign (m.name.M B):=by show qZ m=_;ext qZ;rw[ah h]
def A5(h:m.role=1):(bJ m).role=.same m.lG.toNat:=by show qZ m=_;ext qZ;rw[ag Å,ah h]
def Ht(k:Kv m)(h:m.role=2):(bJ m).role=.answer:=by show qZ m=_;ext qZ;rw[ag Å,ag Å]
def A6{ps:aI}{f:Flags.Kind->Bool}:((ps.M bJ).any f=false)↔ ∀p∈ps,f (bJ p)=false:=by
 simp
def A7(kp:Kv p)(kx:Kv x):((bJ p).shape==(bJ x).shape&&(bJ p).look==(bJ x).look)=false↔ ¬Hs p x:=by
 show(p.shape==x.shape&&c7 p.look==c7 x.look)=false↔_;ext Hs;by_cases h:p.shape=x.shape
 .by_cases h2:p.look=x.look
  .symm
  .let j:=λz=>h2 (ajQ kp.lk kx.lk z);symm
 .simp[h]
def Wz{ps:aI}{x:iq}(kp:∀p∈ps,Kv p)(kx:Kv x):Flags.wrongBehind (ps.M bJ) (bJ x)=Β↔y8 ps x:=by
 ext Flags.wrongBehind;rw[four,A6];let hr:=kx.role;let j:x.role=0\/x.role=1\/x.role=2:=by lia
 rcases j with j|j|j
 .rw[za j,y9,A6,A6,ak,eP j,nt];ext y8;constructor
  .rintro⟨q,h2,M,J⟩;apply(λp hp=>⟨?_,λz=>?_,(A7 Ŏ kx).mp (J p hp)⟩,λ_=>?_)
   .rw[um Ŏ kx j];let:=q p hp;rw[y9] at this;symm
   .let:=h2 p hp;rw[za z.1,z.2.2] at this;symm
   .let:¬Flags.SIGNS<=ps.L:=by simpa using M
    let e:Flags.SIGNS=48:=rfl;symm
  .rintro⟨q,h2⟩;apply(λp hp=>?_,λp hp=>?_,?_,λp hp=>(A7 Ŏ kx).mpr (q p hp).2.2)
   .let:=(um Ŏ kx j).mp (q p hp).1;rw[y9,this];rfl
   .let O:=(um Ŏ kx j).mp (q p hp).1;rw[za O];let U:=(q p hp).2.1;rw[yi];intro z;injection z with z;exact U ⟨O,j,xt (kp p hp).nm kx.nm z⟩
   .let:=h2 j;let e:Flags.SIGNS=48:=rfl;symm
 .rw[A5 j,y9,A6,A6,gC (by omega),mG];ext y8;let W:=kx.DU j;constructor
  .rintro⟨q,h2,M,J⟩;apply(λp hp=>⟨?_,λz=>?_,(A7 Ŏ kx).mp (J p hp)⟩,λz=>?_)
   .rw[xH Ŏ kx j];let qA:=(kp p hp).role;let F:p.role=0\/p.role=1\/p.role=2:=by lia
    rcases F with F|F|F
    .exact .inl F
    .apply .inr ⟨F,?_⟩;let:=h2 p hp;rw[A5 F] at this;let:=atU this;let:=(kp p hp).DU F;lia
    .let:=q p hp;rw[Ht Ŏ F] at this;simp at this
   .let:=z.2.1;lia
   .omega
  .rintro⟨q,h2⟩;apply(λp hp=>?_,λp hp=>?_,Á,λp hp=>(A7 Ŏ kx).mpr (q p hp).2.2)
   .rcases(xH Ŏ kx j).mp (q p hp).1 with z|z
    .rw[za z];rfl
    .rw[A5 z.1];rfl
   .rcases(xH Ŏ kx j).mp (q p hp).1 with z|z
    .rw[za z]
    .rw[A5 z.1];let:=(kp p hp).DU z.1;exact gC (by grind)
 .rw[Ht kx j,y9,A6,gC (by omega:¬x.role=0),mG];ext y8;constructor
  .rintro⟨q,h2,M,J⟩;apply(λp hp=>⟨?_,λz=>?_,(A7 Ŏ kx).mp (J p hp)⟩,λz=>?_)
   .rw[Hr Ŏ kx j];intro F;let:=q p hp;rw[Ht Ŏ F] at this;simp at this
   .let:=z.2.1;lia
   .omega
  .rintro⟨q,h2⟩;apply(λp hp=>?_,Á,Á,λp hp=>(A7 Ŏ kx).mpr (q p hp).2.2);let z:=(Hr Ŏ kx j).mp (q p hp).1;let qA:=(kp p hp).role;let F:p.role=0\/p.role=1:=by lia
   rcases F with F|F
   .rw[za F];rfl
   .rw[A5 F];rfl
def zb:aI->aI->Prop
 |_,[]=>True
 |past,x::r=>y8 past x/\zb (past++[x]) r
def zc(ms:aI):Prop:=∃m∈ms,m.role=0
def WA:((ms.M bJ).all λ(k:Flags.Kind)=>!k.isSign)=true↔ ¬zc ms:=by
 rw[rH,jH];ext zc;constructor
 .rintro h ⟨m,j,e⟩;let:=h m j;simp only[abo,y9,e] at this;symm
 .intro h m j;let:¬m.role=0:=λe=>h ⟨m,j,e⟩;simp only[abo,y9];symm
def ajT(j:aI)(ls:dJ)(z:LI):Prop:=z=[]/\∃ms,hJ ls=Α ms/\zb j ms/\zc (j++ms)
def ajU(ls:dJ):∀(z:LI)(i:Nat)(past:aI),(∀l∈ls,bq l)->(∀p∈past,Kv p)->
  (∀ms,z=[]->hJ ls=Α ms->zb past ms->zc (past++ms)->Flags.judgeLines i ō ((ls++[z]).M ë)=.ok ((past++ms).M bJ))/\(¬ajT past ls z->∃e,Flags.judgeLines i ō ((ls++[z]).M ë)=.error e):=by
 induction ls with
 |nil=>
  intro z i past _ kp;let e:Flags.judgeLines i ō (([]++[z]:dJ).M ë)=if z.M B≠[]\/((past.M bJ).all λ(k:Flags.Kind)=>!k.isSign)=true then .error (1,i) else .ok ō:=rfl;rw[e];constructor
  .intro ms hz hk _ hs;let:=aQ hk;subst this;rw[jF] at hs⊢;rw[ag];rintro (h|h)
   .exact h (by rw[hz];rfl)
   .exact(WA.mp h) hs
  .intro h;rw[ah]
   .exact(_,Á)
   .by_cases hz:z=[]
    .right;rw[WA];intro hs;exact h ⟨hz,[],Á,trivial,by rw[jF];exact hs⟩
    .left;intro q;exact hz (RY.mp q)
 |cons w r ih=>
  intro z i past M kp;obtain⟨y,Z,er⟩:∃y Z,(r++[z]).M ë=y::Z:=by
   cases r with
   |nil=>exact(_,_,Á)
   |cons a b=>exact(_,_,Á)
  let e:Flags.judgeLines i ō (((w::r)++[z]).M ë)=match Flags.kindIn Ĳ with
    |none=>.error (1,i)
    |some x=>match Flags.wrongBehind ō x with
     |some e=>.error (e,i)
     |none=>Flags.judgeLines (i+1) (past.M bJ++[x]) ((r++[z]).M ë):=by
   show Flags.judgeLines i ō (w.M B::(r++[z]).M ë)=_;rw[er];rfl
  rw[e,ajN (M w Ä)];let vS:=λl hl=>M l (aK _ hl);cases ek:iX w with
  |none=>
   apply(λms _ hk=>?_,λ_=>⟨_,Á⟩);rw[Wo (l:=w) Ä ek] at hk;cases hk
  |some x=>
   let kx:=Ww (M w Ä) ek;let O:∀p∈past++[x],Kv p:=λp F=>by
    rcases fu.mp F with F|F
    .exact kp p F
    .rw[iS.mp F];exact kx
   let(W,Y):=ih z (i+1) (past++[x]) vS O;rw[bH] at W Y;let Ol:∀ms,hJ (w::r)=Α ms->∃j,hJ r=Α j/\ms=x::j:=λms hk=>by
    delta hJ at hk;rw[ek] at hk;cases e2:hJ r with
    |none=>rw[e2] at hk;cases hk
    |some ks=>
     rw[e2] at hk;exact(ks,Á,(aQ hk).symm)
   show(∀ms,z=[]->_->_->_->(match Flags.wrongBehind ō (bJ x) with
     |some e=>.error (e,i)
     |none=>Flags.judgeLines (i+1) (past.M bJ++[bJ x]) ((r++[z]).M ë):Except Flags.Fault (List Flags.Kind))=_)/\(_->∃e,(match Flags.wrongBehind ō (bJ x) with
     |some e=>.error (e,i)
     |none=>Flags.judgeLines (i+1) (past.M bJ++[bJ x]) ((r++[z]).M ë):Except Flags.Fault (List Flags.Kind))=_)
   constructor
   .intro ms hz hk hs J;let(j,U,rfl):=Ol ms hk;rw[(Wz kp kx).mpr hs.1];let:=W j hz U hs.2 (by rw[rJ];exact J);apply this.R ?_;rw[rJ];rfl
   .intro h;cases ew:Flags.wrongBehind ō (bJ x) with
    |some e=>exact(_,Á)
    |none=>
     apply Y λg=>h ?_;let(hz,j,U,mV,J):=g;apply(hz,x::j,?_,⟨(Wz kp kx).mp ew,mV⟩,by rw[rJ] at J;exact J);ext hJ;rw[ek,U]
theorem ajW:∀{ms j:aI},zb j ms↔ ∀(i:Nat)x,ms[i]? =Α x->y8 (j++ms.take i) x:=by
 intro ms;induction ms with
 |nil=>
  intro j;simp[zb]
 |cons a r F=>
  intro j;show y8 j a/\zb (j++[a]) r↔_;rw[F];constructor
  .rintro⟨z,h2⟩ i x q;cases i with
   |zero=>
    let:=aQ q;subst this;simpa using z
   |succ i=>
    let:=h2 i x q;rw[rJ] at this;exact this
  .intro h;apply(by simpa using h 0 a rfl,λi x q=>?_);let:=h (i+1) x q;rw[rJ];exact this
theorem ajX{ms:aI}:(∀m∈ms,Kv m)->(ms.Pairwise λp x=>iY p x=true)->0<(ms.J isSign).L->∃x,ms[(ms.J isSign).L-1]? =Α x/\x.role=0:=by
 induction ms with
 |nil=>
  intro _ _ h;simp at h
 |cons a r O=>
  intro kv M h;let(W,p2):=JR.mp M;let kr:=λm J=>kv m (aK _ J);by_cases q:a.role=0
  .let z:(a::r).J isSign=a::r.J isSign:=by
    rw[rK,ah (show isSign a=true by ext isSign;simpa using q)]
   rw[z,dg,Nat.add_sub_cancel];by_cases hz:0<(r.J isSign).L
   .let(x,j,U):=O kr p2 hz;apply(x,?_,U);obtain⟨k,F⟩:∃k,(r.J isSign).L=k+1:=⟨(r.J isSign).L-1,by lia⟩;rw[F] at j⊢;exact j
   .rw[show(r.J isSign).L=0 by lia];exact(a,Á,q)
  .exfalso;let:(a::r).J isSign=[]:=by
    rw[atZ];intro x j hs;let U:x.role=0:=by delta isSign at hs;simpa using hs
    rcases a8.mp j with rfl|j
    .exact q U
    .exact q ((um (kv a Ä) (kr x j) U).mp (W x j))
   rw[this] at h;simp at h
def ajY{ms:aI}(kv:∀m∈ms,Kv m)(z:ms.Pairwise λp x=>iY p x=true){i:Nat}{x:iq}(j:ms[i]? =Α x)(q:x.role=0):i+1<=(ms.J isSign).L:=by
 let hi:=(bo.mp j).1;let J:∀p∈ms.take (i+1),isSign p=true:=λp M=>by
  rw[take_snoc j] at M;ext isSign;rw[lY];rcases fu.mp M with M|M
  .exact(um (kv p (zX M)) (kv x (bj j)) q).mp (pw_place.mp z i x j p M)
  .symm
 let F:((ms.take (i+1)).J isSign).L=i+1:=by
  rw[List.filter_eq_self.mpr J,iR];lia
 let O:ms.J isSign=(ms.take (i+1)).J isSign++(ms.drop (i+1)).J isSign:=by
  rw[<-Fs,RS]
 symm
def WD{ms:aI}(kv:∀m∈ms,Kv m):(oN ms&&pY ms)=true↔zb [] ms/\zc ms:=by
 let Z:=Oq kv;rw[ajW,jG];ext oN pY;rw[jG];let tn:((!pX ((ms.J isSign).M xG))=true)↔ms.Pairwise λp x=>¬Wy p x:=by
  rw[show((!pX ((ms.J isSign).M xG))=true)↔pX ((ms.J isSign).M xG)=false by simp,Os,JS,at0];constructor
  .intro h;apply h.imp λ{a b}F z=>?_;let:=F (by ext isSign;simpa using z.1) (by ext isSign;simpa using z.2.1);rw[Ot,z.2.2] at this;simp at this
  .intro h;apply h.imp λ{a b}F U W=>?_;rw[Ot,JP];exact λz=>F ⟨by delta isSign at U;simpa using U,by delta isSign at W;simpa using W,z⟩
 let tf:((!pX Èo)=true)↔ms.Pairwise λp x=>¬Hs p x:=by
  rw[show((!pX Èo)=true)↔pX Èo=false by simp,Os,JS];constructor
  .intro h;apply h.imp λ{a b}F z=>?_;rw[Wx,z.1,z.2] at F;simp at F
  .intro h;apply h.imp λ{a b}F=>?_;rw[Wx,Bool.and_eq_false_iff];by_cases c:a.shape=b.shape
   .right;rw[JP];exact λz=>F ⟨c,z⟩
   .left;rw[JP];exact c
 rw[tn,tf];let Y:1<=(ms.J isSign).L↔zc ms:=by
  ext zc;constructor
  .intro h;obtain⟨x,j⟩:∃x,x∈ms.J isSign:=by
    cases e:ms.J isSign with
    |nil=>rw[e] at h;simp at h
    |cons x r=>exact(x,by simp)
   exact(x,(iz.mp j).1,by let:=(iz.mp j).2;delta isSign at this;simpa using this)
  .rintro⟨m,hm,O⟩;let:m∈ms.J isSign:=iz.mpr ⟨hm,by ext isSign;simpa using O⟩;exact List.length_pos_of_mem this
 constructor
 .rintro⟨q,h2,h3⟩;split at q
  .cases q
  .rename_i hc;let J:=Z.mp q;apply(λi x j=>⟨λp M=>?_,λO=>?_⟩,Y.mp Î)
   .rw[z5] at M;exact(pw_place.mp J i x j p M,pw_place.mp h2 i x j p M,pw_place.mp h3 i x j p M)
   .let:=ajY kv J j O;rw[z5,iR];grind
 .rintro⟨q,h2⟩;let J:ms.Pairwise λp x=>iY p x=true:=pw_place.mpr λi x j p M=>((q i x j).1 p (by rw[z5];exact M)).1;apply(?_,pw_place.mpr λi x j p M=>((q i x j).1 p (by rw[z5];exact M)).2.1,pw_place.mpr λi x j p M=>((q i x j).1 p (by rw[z5];exact M)).2.2);let n1:=Y.mpr h2;rw[ag,Z]
  .exact J
  .rintro (z|z)
   .lia
   .let(x,j,ue):=ajX kv J (by assumption);let:=(q _ x j).2 ue;let hl:=(bo.mp j).1;rw[z5,iR] at this;grind
def ajZ(h:bq l):Flags.nameIn Ľ=(fJ (codes "locker") l).M λn=>n.M B:=by
 ext Flags.nameIn fJ;rw[show Flags.cutAt 32 Ľ=(aN 32 l).M ë from yR 32 Ñ l h];let j:=qS 32 (l:=l) h;generalize aN 32 l=W at j
 match W,j with
 |[],_=>rfl
 |[a],_=>rfl
 |[a,b],j=>
  let q:=eqB (a:=a) (x:="locker") (s:="locker") (j a Ä) Æy É;show(if a.M B=Flags.ascii "locker"/\Flags.isName Ϟ=true then some Ϟ else none)=Option.map _ (if a=codes "locker"/\iW b=true then some b else none);rw[Hq (j b Ä)];by_cases c:a=codes "locker"/\iW b=true
  .rw[ah c,ah ⟨q.mpr c.1,c.2⟩];rfl
  .rw[ag c,ag (λz:_/\_=>c ⟨q.mp z.1,z.2⟩)];rfl
 |a::b::c::r,_=>rfl
def aj0(h:bq t):(∀x,gM t=Α x->Flags.judge Án=.ok ⟨x.1.M B,x.2.M bJ⟩)/\(gM t=Β->∃e,Flags.judge Án=.error e):=by
 let pZ:Flags.cutAt 10 Án=(aN 10 t).M ë:=yR 10 Ñ t h;let M:=qS 10 (l:=t) h;obtain⟨ls,z,ew⟩:∃ls z,aN 10 t=ls++[z]:=by
  rcases qU (aN 10 t) with e|⟨r,x,e⟩
  .exact absurd e (m5 10 t)
  .symm
 let hw:kH t=if z=[] then some ls else none:=by
  ext kH;symm
 rw[ew] at pZ M;cases ls with
 |nil=>
  let J:gM t=Β:=by
   ext gM;symm
  let F:Flags.judge Án=.error (1,0):=by
   ext Flags.judge;symm
  symm
 |cons w r=>
  let F3:=M w Ä;let U:∀l∈r,bq l:=λl J=>M l (by simp[J]);obtain⟨y,Z,er⟩:∃y Z,(r++[z]).M ë=y::Z:=by
   cases r with
   |nil=>simp
   |cons a b=>simp
  let F:∀n,Flags.nameIn Ĳ=Α n->Flags.judge Án=(Flags.judgeLines 1 [] ((r++[z]).M ë)).M λ(l:List Flags.Kind)=>(⟨n,l⟩:Flags.Locker):=λn q=>by
   ext Flags.judge;symm
  let O:Flags.nameIn Ĳ=Β->Flags.judge Án=.error (1,0):=λq=>by
   ext Flags.judge;symm
  let J:gM t=if z=[] then A4 (fJ (codes "locker") w) (hJ r) else none:=by
   ext gM;grind
  rw[J];let q:=ajZ F3;let(W,Y):=ajU r z 1 [] U Ä;simp only[mJ,z5] at W Y;cases en:fJ (codes "locker") w with
  |none=>
   rw[en] at q;apply(λx j=>?_,λ_=>⟨(1,0),O q⟩);rw[DP] at j;symm
  |some n=>
   rw[en] at q;let F:=F _ q;rw[F];constructor
   .intro x j;split at j
    .rename_i hz;cases ek:hJ r with
     |none=>rw[ek,DO] at j;cases j
     |some ms=>
      rw[ek] at j;let j:(if (oN ms&&pY ms)=true then some (n,ms) else none)=Α x:=j;split at j
      .rename_i ho;let:=aQ j;subst this;let(o1,o2):=(WD (Oo U ek)).mp ho;rw[W ms hz ek o1 o2];rfl
      .symm
    .symm
   .intro j;let(e,ee):=Y λg=>by
     let(hz,ms,hk,hs,lJ):=g;rw[ah hz,hk] at j;let j:(if (oN ms&&pY ms)=true then some (n,ms) else none)=Β:=j;rw[ah ((WD (Oo U hk)).mpr ⟨hs,by assumption⟩)] at j;symm
    exact(e,by rw[ee];rfl)
def i8(c:Int):Option Nat:=if c=16 then none else some c.toNat
def DV:Told->Flags.PlateLine
 |.side s l=>.seen s (c7 l)
 |.hoist k=>.hoist (decide (k%2=1)) (decide (k/2=1))
 |.shape k=>.flag k
 |.row l=>.cells (l.M i8)
def aj2(h:0<=x/\x<=255):Flags.cellIn (B x)=if qR.Y x=true then some (i8 ((qR.idxOf x:Nat):Int)) else none:=by
 let:=DR (p:=λx=>decide (Flags.cellIn (B x)=if qR.Y x=true then some (i8 ((qR.idxOf x:Nat):Int)) else none)) É h;symm
theorem aj3{l:LI}:bq l->(l.M B).mapM Flags.cellIn=if l.all Ãx=true then some (l.M λb=>i8 ((qR.idxOf b:Nat):Int)) else none:=by
 induction l with
 |nil=>exact @λ_=>Á
 |cons x r q=>
  intro h;let q:=q λz hz=>h z (aK _ hz);rw[a7,JN,aj2 (h x eO),q,tq];by_cases j:qR.Y x=true
  .rw[ah j,j,nt];by_cases h2:r.all Ãx=true
   .rw[ah h2,ah h2];rfl
   .rw[ag h2,ag h2];rfl
  .rw[ag j];let j:qR.Y x=false:=by simpa using j
   rw[j,mG,ag eN];rfl
def aj4{w:LI}(j:bq w):(if (w.M B).L=4 then ((w.M B).mapM Flags.cellIn).M Flags.PlateLine.cells else none)=(ly w).M λl=>DV (.row l):=by
 ext ly;rw[ak];by_cases h:w.L=4
 .rw[ah h,ah h,aj3 j];ext kC;by_cases h2:w.all Ãx=true
  .rw[ah h2,ah h2];show some (Flags.PlateLine.cells _)=Α (Flags.PlateLine.cells _);rw[cj];rfl
  .rw[ag h2,ag h2];rfl
 .rw[ag h,ag h];rfl
def WE(h:ws.Y w=false):bV ws w=Β:=by
 ext bV;grind
def aj5(j:bq w):fH Ĳ=(bV iI w).M λk=>(decide (k%2=1),decide (k/2=1)):=by
 let hs:=ahJ j;by_cases h:iI.Y w=true
 .let h':w∈iI:=by simpa using h
  simp only[iI,a8,kZ,k7] at h';rcases h' with rfl|rfl|rfl|rfl <;> decide+kernel
 .let h:iI.Y w=false:=by simpa using h
  rw[WE h];symm
def aj6(j:bq w):fF Ĳ=bV iJ w:=by
 let hs:=ahK j;by_cases h:iJ.Y w=true
 .let h':w∈iJ:=by simpa using h
  simp only[iJ,a8,kZ,k7] at h';rcases h' with rfl|rfl|rfl|rfl <;> decide+kernel
 .let h:iJ.Y w=false:=by simpa using h
  rw[WE h];symm
def aj7(h:xu c=true):(32:Int)∉c:=λj=>by
 delta xu at h;let:=jH.mp (tw.mp h).2 32 j;exact absurd this Ñ
def WG:xu c=(iF c).isSome:=by
 ext xu iF kC;grind
def aj8(hs:s∈[0,1,2]):(32:Int)∉JM.eI s:=by
 let:s=0\/s=1\/s=2:=À hs
 rcases this with rfl|rfl|rfl <;> decide+kernel
def aj9(hs:s∈[0,1,2])(hc:(32:Int)∉c):aN 32 (kq++32::(JM.eI s++32::c))=[kq,JM.eI s,c]:=by
 rw[Vw 32 _ (show(32:Int)∉kq by decide),Vw 32 _ (aj8 hs),ahD 32 hc]
def aka(hs:s∈[0,1,2]):bV vK (JM.eI s)=Α s:=by
 let:s=0\/s=1\/s=2:=À hs
 rcases this with rfl|rfl|rfl <;> decide+kernel
def akb(h:bV ws w=Α i):ws[i]? =Α w:=by
 delta bV at h;let(j,h2,_):=RU.mp h;symm
def akc(J:bq w):(match [0,1,2].find? (pS Ĳ) with
  |some s=>(Flags.lookIn ((w.M B).drop (6+(Flags.sideWord s).L))).M λ(x:Nat)=>Flags.PlateLine.seen s x
  |none=>none)=(HD.eI w).M (λx=>DV (.side x.1 x.2))/\([0,1,2].find? (pS Ĳ)=Β↔HD.eI w=Β):=by
 let up:∀s∈[0,1,2],pS Ĳ s=true->∃c l,w=kq++32::(JM.eI s++32::c)/\iF c=Α l/\HD.eI w=Α (s,l):=λs hs U=>by
  let(c,e,hc):=(Vz J hs).mp U;let F:=aj7 hc;rw[WG] at hc;let(l,j):=JB.mp hc;apply(c,l,e,j,?_);ext HD.eI;rw[e,aj9 hs F];dsimp only;rw[ah rfl,aka hs,j]
 cases ef:[0,1,2].find? (pS Ĳ) with
 |some s=>
  let hs:=List.mem_of_find?_eq_some ef;let(c,l,e,j,es):=up s hs (List.find?_some ef);apply(?_,⟨λz=>(by cases z),λz=>Å⟩);rw[es];show Option.map _ _=Α (Flags.PlateLine.seen s (c7 l));let(q,_,_):=Vy s hs;let ed:(w.M B).drop (6+(Flags.sideWord s).L)=c.M B:=by
   rw[q,ak,<-RR];congr 1;let O:w=preOf (JM.eI s)++c:=by
    rw[e];ext preOf;simp
   let el:(preOf (JM.eI s)).L=6+(JM.eI s).L:=by
    ext preOf;simp[kq];lia
   grind
  let Y:bq c:=λx hx=>J x Å;rw[ed,Wr Y,j];rfl
 |none=>
  let hn:HD.eI w=Β:=by
   cases es:HD.eI w with
   |none=>rfl
   |some x=>
    exfalso;delta HD.eI at es;split at es
    .rename_i a b c ec;split at es
     .rename_i Z;cases O:bV vK b with
      |none=>symm
      |some s=>
       cases q:iF c with
       |none=>symm
       |some l=>
        let hb:=akb O;let KO:s<3:=(bo.mp hb).1;let hs:s∈[0,1,2]:=by
         grind
        let W:b=JM.eI s:=by
         ext JM.eI;symm
        let M:w=kq++32::(JM.eI s++32::c):=by
         let g:=ahF 32 w;rw[ec,Z,W] at g;exact g.symm
        let U:=(Vz J hs).mpr ⟨c,M,by rw[WG,q];rfl⟩;grind
     .symm
    .symm
  symm
def akf{w:LI}(j:bq w):Flags.plateLine Ĳ=(lD w).M DV:=by
 rw[ahL,aj5 j,aj6 j,aj4 j];let(q,z):=akc j;ext lD;cases ef:[0,1,2].find? (pS Ĳ) with
 |some s=>
  rw[ef] at q z;dsimp only at q⊢;cases es:HD.eI w with
  |none=>exact absurd (z.mpr es) Ä
  |some x=>
   rw[es] at q;exact q
 |none=>
  rw[z.mp ef];dsimp only;cases e1:bV iI w with
  |some k=>rfl
  |none=>
   cases e2:bV iJ w with
   |some k=>rfl
   |none=>
    show(ly w).M _=_;cases ly w <;> rfl
def iC(s:Nat×LI):Flags.Seen:=Flags.seenOf s.1 (s.2.M i8)
def iZ(g:iV):Flags.Glimpse:=⟨g.above,g.below,g.flags.M iC⟩
def fX(m:eV):Flags.Plate:=⟨c7 m.classes,m.side,m.ao.M iZ⟩
inductive Open:eV->Flags.PlateState->Prop
 |vT {m:eV} {s:Flags.PlateState}:s.flag=Β->s.hoists=m.ao.M iZ->(∀g∈m.ao,∀f∈g.flags,f.2.L=16)->Open m s
 |opened {m:eV} {s:Flags.PlateState} (gs:List iV) (a b:Bool) (fs:List (Nat×LI)) (k:Nat) (cs:LI):m.ao=gs++[⟨a,b,fs++[(k,cs)]⟩]->s.flag=Α (k,cs.M i8)->s.hoists=gs.M iZ++[⟨a,b,fs.M iC⟩]->
   cs.L<16->cs.L%4=0->(∀g∈gs,∀f∈g.flags,f.2.L=16)->(∀f∈fs,f.2.L=16)->Open m s
structure A8(m:eV)(s:Flags.PlateState):Prop where
 head:s.head=if m.classes=[] then none else some (m.side,c7 m.classes)
 op:Open m s
 hd:m.classes=[]->m.ao=[]
theorem Hv{m:eV}(h:∀g∈m.ao,∀f∈g.flags,f.2.L=16):kG m=false:=by
 ext kG;cases e:m.ao.getLast? with
 |none=>rfl
 |some g=>
  dsimp only;cases e2:g.flags.getLast? with
  |none=>rfl
  |some f=>
   dsimp only;rw[h g (Fq e) f (Fq e2)];rfl
def akg(l:List α)(x:α):(l++[x]).getLast?=Α x:=by simp
def Hw(h:m.ao=gs++[⟨a,b,fs++[(k,cs)]⟩])(j:cs.L<16):kG m=true:=by
 ext kG;symm
def Ou(f:α->β)(l:List α):(l.M f).getLast?=l.getLast?.M f:=by
 simp
theorem WH(s:Flags.Seen)(g:Flags.Glimpse):∀l:List Flags.Glimpse,Flags.putFlag s (l++[g])=l++[{g with flags:=g.flags++[s]}]
 |[]=>rfl
 |[x]=>rfl
 |x::y::r=>by
  show x::Flags.putFlag s (y::r++[g])=_;rw[WH s g (y::r)];rfl
def WI:Told->Prop
 |.side _ l=>l.L=16
 |.row l=>l.L=4
 |_=>True
def akh{m:eV}{s:Flags.PlateState}(r:A8 m s){t:Told}(ht:WI t):
  (eC m t.sort=true->∃s',s.line (DV t)=Α s'/\A8 (sy m t) s')/\(eC m t.sort=false->s.line (DV t)=Β):=by
 let(M,Z,hd):=r;let aki:m.classes≠[]->s.head.isSome=true:=λhc=>by rw[M,ag hc];rfl
 let akj:m.classes=[]->s.head=Β:=λhc=>by rw[M,ah hc]
 let emp:m.classes.isEmpty=true↔m.classes=[]:=by simp
 let Y:m.classes.isEmpty=false↔m.classes≠[]:=by simp
 let opn:m.classes=[]->s.flag=Β/\s.hoists=[]:=λhc=>by
  let J:=hd hc;cases Z with
  |vT j h2 _=>symm
  |opened gs a b fs k cs j=>symm
 let e4:Flags.MOST=4:=rfl;let e8:Flags.LONG=8:=rfl;cases t with
 |side sd l=>
  show(eC m 0=true->_)/\(eC m 0=false->_);let q:eC m 0=m.classes.isEmpty:=by ext eC;simp
  rw[q];show(_->∃s',(if s.head=Β then some {s with head:=Α (sd,c7 l)} else none)=Α s'/\_)/\(_->(if s.head=Β then some {s with head:=Α (sd,c7 l)} else none)=Β);constructor
  .intro h;let hc:=emp.mp h;let(o1,o2):=opn hc;apply(_,ah (akj hc),?_);let hl:l≠[]:=λz=>by
    let M:l.L=16:=ht;symm
   apply(?_,.vT o1 (by show s.hoists=m.ao.M iZ;rw[o2,hd hc];rfl) (λg J=>by rw[show(sy m (.side sd l)).ao=m.ao from rfl,hd hc] at J;simp at J),λz=>absurd z hl);show some (sd,c7 l)=if l=[] then none else some (sd,c7 l);symm
  .symm
 |hoist k=>
  show(eC m 1=true->∃s',(if s.head.isSome=true/\s.flag=Β/\s.hoists.L<Flags.MOST/\(match s.hoists.getLast? with
   |some g=>!g.flags.isEmpty
   |none=>true)=true then some {s with hoists:=s.hoists++[(⟨decide (k%2=1),decide (k/2=1),[]⟩:Flags.Glimpse)]} else none)=Α s'/\_)/\(eC m 1=false->(if s.head.isSome=true/\s.flag=Β/\s.hoists.L<Flags.MOST/\(match s.hoists.getLast? with
   |some g=>!g.flags.isEmpty
   |none=>true)=true then some {s with hoists:=s.hoists++[(⟨decide (k%2=1),decide (k/2=1),[]⟩:Flags.Glimpse)]} else none)=Β)
  by_cases hc:m.classes=[]
  .let q:eC m 1=false:=by ext eC;simp[hc]
   symm
  .let W:=Y.mpr hc;cases Z with
   |opened gs a b fs O cs j h2 F U h5 h6 h7=>
    let q:eC m 1=false:=by ext eC;simp[W,Hw j U]
    symm
   |vT j h2 F=>
    let q:eC m 1=(decide (m.ao.L<4)&& !ml m):=by ext eC;simp[W,Hv F]
    let el:(match s.hoists.getLast? with
     |some g=>!g.flags.isEmpty
     |none=>true)=!ml m:=by
     ext ml;rw[h2,Ou];cases m.ao.getLast? with
     |none=>rfl
     |some g=>
      show(!(g.flags.M iC).isEmpty)=!g.flags.isEmpty;cases g.flags <;> rfl
    rw[q,el];let akl:(s.head.isSome=true/\s.flag=Β/\s.hoists.L<Flags.MOST/\(!ml m)=true)↔(decide (m.ao.L<4)&& !ml m)=true:=by
     symm
    constructor
    .intro h;apply(_,ah (akl.mpr h),?_);apply(?_,.vT j ?_ ?_,λz=>absurd z hc)
     .show s.head=if m.classes=[] then none else some (m.side,c7 m.classes);omega
     .show s.hoists++_=(m.ao++[_]).M iZ;rw[h2,bH];rfl
     .intro g J;rcases fu.mp J with J|J
      .grind
      .symm
    .symm
 |shape k=>
  show(eC m 2=true->∃s',(if s.head.isSome=true/\s.flag=Β/\(match s.hoists.getLast? with
   |some g=>decide (g.flags.L<Flags.LONG)
   |none=>false)=true then some {s with flag:=Α (k,[])} else none)=Α s'/\_)/\(eC m 2=false->(if s.head.isSome=true/\s.flag=Β/\(match s.hoists.getLast? with
   |some g=>decide (g.flags.L<Flags.LONG)
   |none=>false)=true then some {s with flag:=Α (k,[])} else none)=Β)
  by_cases hc:m.classes=[]
  .let q:eC m 2=false:=by ext eC;simp[hc]
   symm
  .let W:=Y.mpr hc;cases Z with
   |opened gs a b fs O cs j h2 F U h5 h6 h7=>
    let q:eC m 2=false:=by ext eC;simp[W,Hw j U]
    symm
   |vT j h2 F=>
    let q:eC m 2=(match m.ao.getLast? with
     |some g=>decide (g.flags.L<8)
     |none=>false):=by
     ext eC;rw[W,Hv F];rfl
    let el:(match s.hoists.getLast? with
     |some g=>decide (g.flags.L<Flags.LONG)
     |none=>false)=(match m.ao.getLast? with
     |some g=>decide (g.flags.L<8)
     |none=>false):=by
     rw[h2,Ou];cases m.ao.getLast? with
     |none=>rfl
     |some g=>
      show decide ((g.flags.M iC).L<8)=decide (g.flags.L<8);rw[ak]
    rw[q,el];constructor
    .intro h;apply(_,ah ⟨aki hc,j,h⟩,?_);rcases qU m.ao with e|⟨gs,g,e⟩
     .symm
     .apply(M,.opened gs g.above g.below g.flags k [] ?_ Á ?_ Ñ Ñ ?_ ?_,λz=>absurd z hc)
      .show m.ao.dropLast++(m.ao.getLast?.M _).toList=_;symm
      .rw[h2,e,bH];rfl
      .grind
      .grind
    .symm
 |row l=>
  let DH:l.L=4:=ht;show(eC m 3=true->∃s',(match s.flag with
   |some (k,mm)=>if (mm++l.M i8).L=16 then some {s with hoists:=Flags.putFlag (Flags.seenOf k (mm++l.M i8)) s.hoists,flag:=Β} else some {s with flag:=Α (k,mm++l.M i8)}
   |none=>none)=Α s'/\_)/\(eC m 3=false->(match s.flag with
   |some (k,mm)=>if (mm++l.M i8).L=16 then some {s with hoists:=Flags.putFlag (Flags.seenOf k (mm++l.M i8)) s.hoists,flag:=Β} else some {s with flag:=Α (k,mm++l.M i8)}
   |none=>none)=Β)
  cases Z with
  |vT j h2 F=>
   let q:eC m 3=false:=by
    ext eC;by_cases hc:m.classes=[]
    .symm
    .simp[Y.mpr hc,Hv F]
   symm
  |opened gs a b fs O cs j h2 F U h5 h6 h7=>
   let hc:m.classes≠[]:=λz=>by let:=hd z;rw[j] at this;simp at this
   let q:eC m 3=true:=by ext eC;simp[Y.mpr hc,Hw j U]
   rw[q,h2];apply(λ_=>?_,λz=>(by cases z));dsimp only;let ep:(sy m (.row l)).ao=gs++[⟨a,b,fs++[(O,cs++l)]⟩]:=by
    show m.ao.dropLast++(m.ao.getLast?.M _).toList=_;symm
   let ec:cs.M i8++l.M i8=(cs++l).M i8:=by rw[bH]
   rw[ec,ak,j4,DH];by_cases sE:cs.L+4=16
   .rw[ah sE];apply(_,Á,M,.vT Á ?_ ?_,λz=>absurd z hc)
    .let eg:iZ ⟨a,b,fs++[(O,cs++l)]⟩=⟨a,b,fs.M iC++[Flags.seenOf O ((cs++l).M i8)]⟩:=by
      ext iZ;rw[bH];rfl
     rw[F,WH,ep,bH (f:=iZ),a7,mJ,eg]
    .grind
   .rw[ag sE];apply(_,Á,M,.opened gs a b fs O (cs++l) ep Á F ?_ ?_ h6 h7,λz=>absurd z hc)
    .grind
    .symm
end HD
namespace HD
open PySem PySem.Spec PyProof.Rows L2
open PySem.W (Codec)
abbrev nv(l:LN):LI:=l.M λn=>((n:Nat):Int)
def eW:iq:=⟨0,[],0,0,0,[]⟩
def jr{l:LN}{i:Nat}{y:V}(h:Èp[i]? =Α y):∃z,l[i]? =Α z/\y=V.int (z:Nat):=by
 let(z,hz,e):=ua h;rw[bz] at hz;cases q:l[i]? with
 |none=>rw[q] at hz;cases hz
 |some n=>
  rw[q] at hz;let:=aQ hz;subst this;exact(n,Á,e)
def gO(l:LN):(nv l).L=l.L:=by ext nv;rw[ak]
def A9(h:aU H Äb):H l.a=Α (.ins CL l.dx (Hd l)):=h (l.a,_) (by simp[ui])
def akm(h:aU H Äb):H l.kl=Α (.lst (l.kinds.M λk=>V.ref k.a)):=h (l.kl,_) (by simp[ui])
def akn(h:aU H Äb):aU H (AY CK l.kinds):=λx j=>h x (by ext ui;exact aK _ (aK _ (aK _ j)))
def WJ{α:Type}{l:List α}(h:l.L=1):∃a,l=[a]:=List.length_eq_one_iff.mp h
def WK{α:Type}{l:List α}(h:l.L=2):∃a b,l=[a,b]:=by
 let(a,l,rfl):=abp h;let(b,rfl):=WJ (abq h);exact(a,b,Á)
def WL{α:Type}{l:List α}(h:l.L=3):∃a b c,l=[a,b,c]:=by
 let(a,l,rfl):=abp h;let(b,c,rfl):=WK (abq h);exact(a,b,c,Á)
def ako{α:Type}{l:List α}(h:l.L=4):∃a b c d,l=[a,b,c,d]:=by
 let(a,l,rfl):=abp h;let(b,c,d,rfl):=WL (abq h);exact(a,b,c,d,Á)
def jt(K:FR)(C:Addr)(fs:LS):Prop:=l7 K C/\∀f∈fs,ϱ f
def sG(c:Nat):Nat:=c-c%4+4-1-c%4
inductive Ov(vs:ay)(H:Hp)(Q:VK)(E':XK):Prop
 |mk (c:Nat) (_:vs=[.int (c:Nat)]) (_:Q (.int (sG c:Nat)) H)
def oP(look classes:LI)(side:Nat):LI:=if side=1 then (List.range 16).M (λc=>classes.D (look.D (sG c) 0).toNat 0) else look.M λx=>classes.D x.toNat 0
inductive WM(K:FR)(vs:ay)(H:Hp)(Q:VK)(E':XK):Prop
 |mk (al ac:Addr) (look classes:LI) (side:Nat) (_:vs=[.ref al,.ref ac,.int (side:Nat)]) (_:ä al (iv look)) (_:gf look) (_:ä ac (iv classes)) (_:classes.L=16) (_:∀H' p,Ů p (.lst (iv (Àu side)))->Q Ĝ H')
def WN{D:Addr}{ys:ay}{H:Hp}{α:Type}{L:List α}{g:α->Int}(hd:H D=Α Âw)(e:ys=L.M λx=>V.int (g x)):H D=Α (.lst (iv (L.M g))):=by
 symm
def zd{l:LI}{i:Nat}(h:i<l.L):(iv l)[i]? =Α (.int (l.D i 0)):=by
 symm
section
variable{P:Pg}{w:Wd}{K:FR}{mg:MG}{base:Heap}{CK CL CS N CV:Addr}{C:Cs}
def akp:bC ["cell"] ["cell"] (ba LQ):=cg
def akq(F:br K "cell_behind" "cell_behind" LQ f fd)(j:Cn mg "ROW" (.int 4)):Ë 1 f fd ["cell"] Ov:=by
 refine F.ok akp Â;let(c,rfl,k):=h;apply(_,aA (aV (d9 rV (d9 rV (d9 pK (d9 rV Ø (d9 Kl Ø (cu j))) (cu j)) bc) (d9 Kl Ø (cu j)))),?_);apply(_,Á,_,Á,_,_,Á,Á,Å,_,_,Á,Á,_,_,Á,Á,_,_,Á,Á,_,Á,_,_,Á,Á,(by omega),_,_,Á,Á,?_);let e:((c:Int)-(c:Int)%4+4-1-(c:Int)%4)=((sG c:Nat):Int):=by ext sG;lia
 symm
def WO{c:Nat}(h:c<16):sG c<16:=by ext sG;omega
def DW:bC ["look","classes","side","cell","colour"] ["look","classes","side"] (ba LR):=cg
def akr{f:Addr}{fd:FD}(F:br K "cells_seen" "cells_seen" LR f fd)(tR:mg "range"=Β)(cB:Cn mg "BEHIND" Ŝ)(cC:Cn mg "CELLS" (.int 16))(dB:Ç 1 "cell_behind" ["cell"] Ov):Ë 2 f fd ["look","classes","side"] (WM K):=by
 refine F.ok DW Â;let(M,ac,look,classes,side,rfl,Z,j,hC,WQ,k):=h;refine⟨_,aB (dj (cw iB å (cu cB) (bU _)) (aA (aV (eA (own:=[("cell",3)]) (te:=bQ Ũ ž (bQ Ũ Ų (g8 Ov [] E0 Âk))) Á DW.nd (FJ Ð tR (ae (cu cC) af)) Ê
   (λ_ _ _ _ _=>cZ 3 DW.nd) Ò (λ_ _ _ _ _=>cJ c9 á (cJ c9 Ø (bx dB ĳ) Ö) Ö)))) dQ)
  (aA (aV (eA (own:=[("colour",4)]) (te:=bQ Ũ ž Ãt) rfl DW.nd Åe Ê
   (λ_ _ _ _ _=>cZ 4 DW.nd) Ò (λ_ _ _ _ _=>cJ c9 á ę Ö)))),?_⟩
 let q:=k;delta oP at q;refine ŷ;rw[show V.int 1=V.int ((1:Nat):Int) from rfl,nF];let WR:∀x,0<=x->x<16->qF (iv classes) x=Α (.int (classes.D x.toNat 0)):=λx h0 J=>by
  obtain⟨n,rfl⟩:∃n:Nat,x=(n:Int):=⟨x.toNat,by lia⟩;exact fZ (zd Î)
 refine a0 Ï Ï
 .simp at hc;rw[ah hc] at q;refine⟨16,Á,by decide,by decide,λD hD=>CZ (lo:=0) (n:=16) (cy H D λi y ns=>ns=[]/\y=.int (classes.D (look.D (sG i) 0).toNat 0)) Ď Ây þ⟩
  .let hb:=WO hi;let(W,Y):=j.2 _ (getD_mem (l:=look) (i:=sG i) (by rw[j.1];exact hb));apply(Á,eJ ⟨_,Á,_,Á,_,Á,i,?_,?_⟩)
   .simp
   .exact(M,_,_,.int (look.D (sG i) 0),Á,Á,f.E.seq Z,fZ (zd (by rw[j.1];exact hb)),ac,_,_,_,Á,Á,f.E.seq hC,WR _ W Y,(f.step hD Î Ĥ ⟨Á,Á⟩ aU.nil Ä))
  .let(ys,s1,U,O,fl):=f.end;apply q H' D ⟨s1,hD,WN U (ug (by assumption) λi y x J h2=>?_)⟩;let(ns,(_,e),_):=fl i y J;grind
 .simp at hc;rw[ag hc] at q;refine⟨_,Á,M,Á,⟨_,Z⟩,λD hD=>fV (K:=K) (a:=M) (xs:=iv look) (cy H D λi y ns=>ns=[]/\∃x,look[i]? =Α x/\y=.int (classes.D x.toNat 0)) Ď (λi H' _ f=>f.E.seq Z) ą þ⟩
  .let(z,hz,rfl):=ua hi;let dm:=(bo.mp hz).1;let sE:=j.1;let(W,Y):=j.2 z (bj hz);exact(Á,eJ ⟨_,Á,_,Á,ac,_,_,_,Á,Á,f.E.seq hC,WR z W Y,(f.step hD Î Ĥ ⟨Á,z,hz,Á⟩ aU.nil Ä)⟩)
  .let(ys,s1,U,O,fl):=f.end;rw[dw] at O;apply q H' D ⟨s1,hD,WN U (ug O λi y x J h2=>?_)⟩;let(ns,(_,z,e1,e),_):=fl i y J;symm
inductive DX(K:FR)(C:Cs)(CK:Addr)(vs:ay)(H:Hp)(Q:VK)(E':XK):Prop
 |mk (k:au) (ac:Addr) (classes:LI) (side:Nat) (_:vs=[.ref k.a,.ref ac,.int (side:Nat)]) (_:aU H (lH CK k)) (_:gf k.m.look) (_:ä ac (iv classes)) (_:classes.L=16) (_:∀H' s,ai H H'->s.shape=k.m.shape->s.cells=oP k.m.look classes side->aU H' (gV C s)->(∀x∈gV C s,H x.1=Β)->Q (.ref s.a) H')
def aks:bC ["kind","classes","side"] ["kind","classes","side"] (ba Mt):=cg
def akt(F:br K "sighting_of" "sighting_of" Mt f fd)(T:ud K CK)(U:Ā "Sighting" C.S ["shape","cells"])(O:Ç 2 "cells_seen" ["look","classes","side"] (WM K)):
  aZ P w K mg base aE 3 f fd ["kind","classes","side"] År:=by
 refine F.ok aks Â;let(z,M,classes,side,rfl,hz,rg,Z,W,k):=h;apply(_,aA (aV (pV U hr (ae ĺ (ae (bx O (ae ĺ (ae á ł))) af)))),?_);apply(_,Á,aY (jQ hz) T.c T.yU (Wa z) ⟨_,Á,aY (jQ hz) T.c T.Wc (Wb z) ⟨_,Á,_,Á,z.lk,M,z.m.look,classes,side,Á,aa.of (Wm hz),rg,Z,W,λH1 pc j=>?_⟩⟩);apply xE Á λx dx J hx gU aL Y q=>?_;apply k J ⟨x,dx,pc,z.m.shape,_⟩ (j.1.R q) Á Á Âm λy hy=>?_
 .simp only[gV,a8,kZ,k7] at hy;rcases hy with rfl|rfl
  .exact Y
  .exact q _ _ j.2.2
 .simp only[gV,a8,kZ,k7] at hy;rcases hy with rfl|rfl
  .exact j.1.free hx
  .exact j.2.1
end
def Hz{D:Addr}{ys:ay}{H:Hp}{n:Nat}{b:Nat->Bool}(hd:H D=Α Âw)(q:ys.L=n)(h:∀(i:Nat)(y:V),ys[i]? =Α y->y=.bl (b i)):H D=Α (.lst (((List.range n).M b).M V.bl)):=by
 let e:ys=(List.range n).M (V.bl∘b):=ug (by rw[q,ik]) λi y x j h2=>by
  rw[h i y j,yY h2];rfl
 rw[hd,cj,e]
def xI(h w:LI)(i:Nat):Bool:=decide (h.D i 0=16)||decide (h.D i 0=w.D i 0)
def xJ(h w:Nat×LI):Bool:=if h.1≠3/\h.1≠w.1 then false else (List.range h.2.L).all (xI h.2 w.2)
inductive Ow(C:Cs)(vs:ay)(H:Hp)(Q:VK)(E':XK):Prop
 |mk (a b:eB) (_:vs=[.ref a.a,.ref b.a]) (_:Lies H (gV C a)) (_:Lies H (gV C b)) (_:a.cells.L<=b.cells.L) (_:a.cells.L<=100) (_:∀H',ai H H'->Q (.bl (xJ a.m b.m)) H')
section
variable{P:Pg}{w:Wd}{K:FR}{mg:MG}{base:Heap}{CK CL CS N CV:Addr}{C:Cs}
def Ox:bC ["half","whole","cell","seen"] ["half","whole"] (ba Mx):=cg
def aku{f:Addr}{fd:FD}(F:br K "may_be" "may_be" Mx f fd)(T:lx K C)(tA:mg "all"=Β)(tE:mg "enumerate"=Β)(W:Cn mg "UNSEEN_SHAPE" (.int 3))(Y:Cn mg "UNSEEN_CELL" (.int 16)):
  aZ P w K mg base aE 1 f fd ["half","whole"] (Ow C):=by
 refine F.ok Ox Â;let(a,b,rfl,j,q,hl,jM,k):=h;refine⟨_,aB (dj (PW.pt (pw_and (cw wR ĺ (cu W) (bU _)) (pw_and1 (cw wR ĺ Åh (bU _))))) ϫ dQ)
  (aA (aV (c8 (w6 rfl) Ð tA zY (ae (eA (own:=[("cell",2),("seen",3)]) (g:=g2 K 2 3) (te:=FG (bQ pL Ŀ (tC (.int 16))) (bQ pL Ŀ (bQ Ũ (fj K ž "cells") ř))) rfl Ox.nd
   (Éi) Ê
   (λ_ _ _ _ _=>iA 2 3 Ox.nd) Ò
   (λ_ _ _ _ _=>Kd (j7 iB ö (cu Y) (bU _)) (rS (j7 iB ö (cJ c9 Ň å Ö) (bU _))))) af)))),?_⟩
 let Z:xJ a.m b.m=if a.shape≠3/\a.shape≠b.shape then false else (List.range a.cells.L).all (xI a.cells b.cells):=rfl;rw[Z] at k;refine and_val (!decide (a.shape=3)) (!decide (a.shape=b.shape)) (λK h=>⟨_,Á,aY j.sa T.cS T.yU (GX a) Ļ⟩) (λ_ K h=>⟨_,Á,aY j.sa T.cS T.yU (GX a) ⟨_,Á,aY q.sa T.cS T.yU (GX b) Ļ⟩⟩) (a0 Ï Ï)
 .rw[show V.int 3=V.int ((3:Nat):Int) from rfl,nF];exact h
 .rw[nF];exact h
 .rw[ah Å] at k;exact k H ſ
 .rw[ag (by grind)] at k;let O:=j.sl;refine⟨_,Á,aY j.sa T.cS T.DE (DC a) ⟨a.l,_,Á,aa.of O,λD hD=>mh (K:=K) (a:=a.l) (xs:=iv a.cells) (cy H D λi y ns=>ns=[]/\y=.bl (xI a.cells b.cells i)) Ď (λi H' _ f=>aa.of (f.E _ _ O)) ŕ þ⟩⟩
  .let(z,hz,rfl):=ua hi;let dm:=(bo.mp hz).1;let J:ai H' (Ϩ (.tup [.int (i:Nat),.int z])):=aG hT;let U:=f.E.R J;refine à;apply Lk (decide (z=16)) (decide (z=b.cells.D i 0)) (λK h=>⟨_,Á,Á,?_⟩) (λ_ K h=>⟨_,Á,_,Á,aY (U _ _ q.sa) T.cS T.DE (DC b) ⟨_,Á,b.l,_,_,.int (b.cells.D i 0),Á,Á,aa.of (U _ _ q.sl),fZ (zd Î),Á,?_⟩⟩) ?_
   .symm
   .symm
   .refine f.step hD Î J Ţ aU.nil Ä;ext xI;symm
  .let(ys,J,fW,M,fl):=f.end;rw[dw] at M;apply(D,(List.range a.cells.L).M (xI a.cells b.cells),Á,aa.of (Hz fW M λi y e=>?_),?_)
   .let(ns,(_,e),_):=fl i y e;omega
   .symm
end
structure dc where
 a:Addr
 ns:LN
structure cA where
 a:Addr
 ls:List dc
def lsN(x:dc):jo:=[(x.a,.lst (iv (nv x.ns)))]
def e9(y:cA):jo:=(y.a,.lst (y.ls.M λx=>V.ref x.a))::y.ls.flatMap lsN
def cA.m(y:cA):bf:=y.ls.M dc.ns
def i9(H:Hp)(ns:jo):Prop:=∀x∈ns,H x.1=Β
def DY(h:aU H (lsN x)):H x.a=Α ό:=h (x.a,_) (by simp[lsN])
def ju(h:aU H Çl):H y.a=Α (.lst (y.ls.M λx=>V.ref x.a)):=h (y.a,_) (by simp[e9])
def nc(h:aU H Çl)(j:x∈y.ls):H x.a=Α ό:=DY λz hz=>h z (by ext e9;exact aK _ (jg.mpr ⟨x,j,hz⟩))
def WS{H:Hp}{a:Addr}{ls:List dc}(h:H a=Α (.lst (ls.M λx=>V.ref x.a)))(h2:∀x∈ls,aU H (lsN x)):aU H (e9 ⟨a,ls⟩):=λz hz=>by
 rcases a8.mp hz with rfl|hz
 .exact h
 .let(x,j,hz):=jg.mp hz;exact h2 x j z hz
def DZ{H:Hp}{a:Addr}{ls:List dc}(h:H a=Β)(h2:∀x∈ls,i9 H (lsN x)):i9 H (e9 ⟨a,ls⟩):=λz hz=>by
 rcases a8.mp hz with rfl|hz
 .exact h
 .let(x,j,hz):=jg.mp hz;exact h2 x j z hz
theorem gQ{α:Type}{a:α->Addr}{l:List α}{i:Nat}{y:V}(h:(l.M λk=>V.ref (a k))[i]? =Α y):∃z,l[i]? =Α z/\y=V.ref (a z):=by
 rw[bz] at h;cases e:l[i]? with
 |none=>rw[e] at h;cases h
 |some z=>rw[e] at h;exact(z,Á,(aQ h).symm)
def Oy{α β:Type}{bs:List α}{m:α->β}{l:List β}(j:bs.L=l.L)(h:∀(i:Nat)(b:α)(x:β),bs[i]? =Α b->l[i]? =Α x->m b=x):bs.M m=l:=by
 apply yl;grind
def D0(i:Nat):(List.range (i+1)).J p=(List.range i).J p++(if p i=true then [i] else []):=by
 rw[JQ,Fs];grind
def akv(i:Nat):((List.range i).J p).L<=i:=by
 grind
def ng(H1:Hp)(D:Addr)(p:Nat->Bool)(i:Nat)(H:Hp):Prop:=ai H1 H/\H D=Α (.lst (iv (nv ((List.range i).J p))))
def ng.zero{H1:Hp}{D:Addr}{p:Nat->Bool}(j:H1 D=Β):ng H1 D p 0 Đ:=⟨aG j,aq⟩
def ng.yes(j:H1 D=Β)(hi:i<1000000)(f:ng H1 D p i H)(s:ai H H4)(h:p i=true):lh D (ng H1 D p (i+1)) (V.int (i:Nat)) H4:=by
 apply(_,s _ _ f.2,?_,fc (f.1.R s) j,?_)
 .rw[dw,gO];let:=akv (p:=p) i;exact f7 Î
 .rw[aq,D0,ah h];simp
def ng.no(f:ng H1 D p i H)(s:ai H H4)(h:¬p i=true):ng H1 D p (i+1) H4:=by
 apply(f.1.R s,?_);rw[D0,ag h,jF];exact s _ _ f.2
def jR(H:Hp)(D:Addr)(g:Nat->LN):Nat->Hp->Prop:=cy H D λi y ns=>∃b:dc,(b.ns=g i/\i9 H (lsN b))/\y=.ref b.a/\ns=lsN b
def jR.step{H H' q:Hp}{D r:Addr}{g:Nat->LN}{i:Nat}(z:H D=Β)(hi:i<1000000)(f:jR H D g i H')(s:ai H' q)(hr:H' r=Β)(e:q r=Α (.lst (iv (nv (g i))))):
  lh D (jR H D g (i+1)) (V.ref r) q:=
 cy.step z hi f s (ns:=lsN ⟨r,g i⟩) ⟨⟨r,g i⟩,⟨rfl,λx j=>by
  simp only[lsN,a8,kZ,k7] at j;subst j;exact f.E.free hr⟩,rfl,rfl⟩ (λx j=>by
  simp only[lsN,a8,kZ,k7] at j;subst j;exact e) (λx j e=>by
  simp only[lsN,a8,kZ,k7] at j;subst j;exact f.has (by rw[<-e];exact hr))
def jR.end{H H':Hp}{D:Addr}{g:Nat->LN}{n:Nat}(O:H D=Β)(f:jR H D g n H'):∃y:cA,y.a=D/\ai H H'/\y.m=(List.range n).M g/\aU H' Çl/\i9 H Çl:=by
 let(ys,Y,J,q,fl):=cy.end f;let(bs,F,z,W):=y6 (v:=λb:dc=>V.ref b.a) (nd:=lsN) (R:=λi b=>b.ns=g i/\i9 H (lsN b)) fl;subst F;rw[ak] at q;apply(⟨D,bs⟩,Á,Y,?_,WS J W,DZ O λb U=>?_)
 .apply Oy (by rw[ak,ik];exact q) λi b x M h2=>?_;rw[bz] at h2;cases e:Él[i]? with
  |none=>rw[e] at h2;cases h2
  |some j=>
   rw[e] at h2;cases h2;rw[yY e];exact(z i b M).1
 .let(i,hi,e):=nr U;exact(z i b (by rw[cI hi,e])).2
theorem vU{α β:Type}{l:List α}{g:α->β}{d:α}:(List.range l.L).M (λi=>g (l.D i d))=l.M g:=by
 apply Oy (by rw[ik,ak]) λi b x j h2=>?_;rw[bz] at h2;cases e:l[i]? with
 |none=>rw[e] at h2;cases h2
 |some z=>
  rw[e] at h2;cases h2;rw[yY j,getD_at e]
def uo(ls:List (Nat×LI))(h:Nat×LI):LN:=(List.range ls.L).J λi=>xJ h (ls.D i (0,[]))
def zf(ls:List (Nat×LI))(g:iV):bf:=g.flags.M (uo ls)
def Ba(C:Cs)(H:Hp)(p:Addr)(ls:List eB):Prop:=H p=Α (.lst (ls.M λl=>V.ref l.a))/\(∀l∈ls,Lies H (gV C l))/\∀l∈ls,l.cells.L=16
def Ba.same{C:Cs}{H H':Hp}{p:Addr}{ls:List eB}(h:Ba C H p ls)(s:ai H H'):Ba C H' p ls:=⟨s _ _ h.1,λl j=>(h.2.1 l j).E s,h.2.2⟩
inductive Oz(C:Cs)(vs:ay)(H:Hp)(Q:VK)(E':XK):Prop
 |mk (p:Addr) (ls:List eB) (h:eB) (_:vs=[.ref p,.ref h.a]) (_:Ba C H p ls) (_:ls.L<=100000) (_:Lies H (gV C h)) (_:h.cells.L=16) (_:∀H' r,Ů r (.lst (iv (nv (uo Æb h.m))))->Q ϣ H')
inductive OB(C:Cs)(vs:ay)(H:Hp)(Q:VK)(E':XK):Prop
 |mk (p:Addr) (ls:List eB) (g:cz) (_:vs=[.ref p,.ref g.a]) (_:Ba C H p ls) (_:ls.L<=100000) (_:Lies H Çi) (_:g.flags.L<=100) (_:(∀s∈g.flags,s.cells.L=16)) (_:∀H' y,ai H H'->cA.m y=zf Æb g.m->aU H' Çl->i9 H Çl->Q Áe H')
section
variable{P:Pg}{w:Wd}{K:FR}{mg:MG}{base:Heap}{CK CL CS N CV:Addr}{C:Cs}
def OC:bC ["looks","half","number","whole"] ["looks","half"] (ba Mw):=cg
def akw{f:Addr}{fd:FD}(F:br K "kinds_that_look_so" "kinds_that_look_so" Mw f fd)(tE:mg "enumerate"=Β)(W:Ç 1 "may_be" ["half","whole"] (Ow C)):Ë 2 f fd ["looks","half"] (Oz C):=by
 refine F.ok OC Â;let(p,ls,z,rfl,j,hl,hz,q,k):=h;refine⟨_,aA (aV (eA (own:=[("number",2),("whole",3)]) (g:=g2 K 2 3) (tt:=tB (g8 (Ow C) [] E0 (a9 ž Âk))) (te:=ax 2) Á OC.nd
   (Ás) Ê
   (λ_ _ _ _ _=>iA 2 3 OC.nd)
   (λ_ _ _ _ _=>oE (jh (bx W (ae á ĳ)))) Äp)),?_⟩
 refine⟨_,Á,p,_,Á,aa.of j.1,λD M=>mh (K:=K) (a:=p) (xs:=ls.M λl=>V.ref l.a) (ng H D λi=>xJ z.m ((ls.M eB.m).D i (0,[]))) (ng.zero M) (λi H' _ f=>aa.of (f.1 _ _ j.1)) ŕ þ⟩
 .let(l,J,rfl):=gQ hi;let O:=bj J;let Z:=(bo.mp J).1;let s1:ai H' (Ϩ (.tup [.int (i:Nat),.ref l.a])):=aG hT;let U:=f.1.R s1;refine è;apply(_,Á,_,Á,z,l,Á,hz.E U,(j.2.1 l O).E U,by rw[q,j.2.2 l O];exact bA _,by simp_all,λY s3=>⟨_,rfl,?_⟩);let e:xJ z.m ((ls.M eB.m).D i (0,[]))=xJ z.m l.m:=by rw[getD_map J]
  refine a0 Ï Ï
  .exact(_,Á,f.yes M Î Åz (e.R hc))
  .exact f.no Åz Å
 .let e:=f.2;rw[ak] at e;apply k H' D ⟨f.1,M,?_⟩;ext uo;symm
def OD:bC ["looks","glimpse","flag"] ["looks","glimpse"] (ba Mv):=cg
def aky{f:Addr}{fd:FD}(F:br K "kinds_along" "kinds_along" Mv f fd)(T:lx K C)(U:Ç 2 "kinds_that_look_so" ["looks","half"] (Oz C)):Ë 3 f fd ["looks","glimpse"] (OB C):=by
 refine F.ok OD Â;let(p,ls,g,rfl,Z,Y,z,n0,j,k):=h;let M:=z.fl;refine⟨_,aA (aV (eA (own:=[("flag",2)]) (te:=g8 (Oz C) [] E0 (a9 Ų (a9 ř dq))) Á OD.nd (dX Åh) Ê
   (λ_ _ _ _ _=>cZ 2 OD.nd) Ò (λ_ _ _ _ _=>bx U (ae Ø ł)))),?_⟩
 refine⟨_,Á,aY z.ga T.cG T.vM (vL g) ⟨g.l,Á,⟨_,aa.of M⟩,λD hD=>fV (K:=K) (a:=g.l) (xs:=g.flags.M λs=>V.ref s.a) (jR H D λi=>uo Æb ((g.flags.M eB.m).D i (0,[]))) Ď (λi H' _ f=>aa.of (f.E _ _ M)) ą þ⟩⟩
 .let(sg,q,rfl):=gQ hi;let O:=bj q;let dm:=(bo.mp q).1;exact(Á,eJ ⟨_,Á,_,Á,p,ls,sg,Á,Z.E f.E,Y,(z.AM O).E f.E,j sg O,λH3 r J=>(jR.step hD Î f J.1 J.2.1 (by rw[getD_map q];exact J.2.2))⟩)
 .let(y,rfl,s1,W,l1,fr):=jR.end hD f;apply k H' y s1 ?_ l1 fr;rw[W,ak];let:=vU (l:=g.flags.M eB.m) (g:=uo Æb) (d:=(0,[]));rw[ak] at this;exact this
end
def jS{β:Type}(nd:β->jo)(ad:β->Addr)(R:Nat->β->Prop)(H:Hp)(D:Addr):Nat->Hp->Prop:=cy H D λi y ns=>∃b:β,(R i b/\i9 H (nd b))/\y=.ref (ad b)/\ns=nd b
def jS.step{β:Type}{nd:β->jo}{ad:β->Addr}{R:Nat->β->Prop}{H H' j:Hp}{D:Addr}{i:Nat}(z:H D=Β)(hi:i<1000000)(f:jS nd ad R H D i H')(s:ai H' j)(b:β)(r:R i b)(l:aU j (nd b))(fr:i9 H' (nd b)):
  lh D (jS nd ad R H D (i+1)) (V.ref (ad b)) j:=
 cy.step z hi f s (ns:=nd b) ⟨b,⟨r,λx q=>f.E.free (fr x q)⟩,rfl,rfl⟩ l (λx q e=>f.has (by rw[<-e];exact fr x q))
def jS.end{β:Type}{nd:β->jo}{ad:β->Addr}{R:Nat->β->Prop}{H H':Hp}{D:Addr}{n:Nat}(f:jS nd ad R H D n H'):∃bs:List β,bs.L=n/\ai H H'/\H' D=Α (.lst (bs.M λb=>V.ref (ad b)))/\(∀(i:Nat)(b:β),bs[i]? =Α b->R i b)/\(∀b∈bs,aU H' (nd b))/\∀b∈bs,i9 H (nd b):=by
 let(ys,O,F,j,fl):=cy.end f;let(bs,z,q,M):=y6 (v:=λb:β=>V.ref (ad b)) (nd:=nd) (R:=λi b=>R i b/\i9 H (nd b)) fl;subst z;rw[ak] at j;apply(bs,j,O,F,λi b e=>(q i b e).1,M,λb J=>?_);let(i,hi,e):=nr J;exact(q i b (by rw[cI hi,e])).2
def i9.back(h:i9 H' ns)(s:ai H H'):i9 H ns:=λx j=>s.free (h x j)
def Bb{α β γ:Type}{bs:List β}{l:List α}{m:β->γ}{g:α->γ}(q:bs.L=l.L)(h:∀(i:Nat)(b:β)(x:α),bs[i]? =Α b->l[i]? =Α x->m b=g x):bs.M m=l.M g:=
 Oy (by rw[ak];exact q) λi b y j h2=>by
  rw[bz] at h2;cases e:l[i]? with
  |none=>rw[e] at h2;cases h2
  |some x=>
   rw[e] at h2;cases h2;exact h i b x j e
structure vV where
 a:Addr
 dx:Addr
 gl:Addr
 side:Nat
 gs:List cA
def HA(v:vV):List (Str×V):=[("side",.int (v.side:Nat)),("glimpses",.ref v.gl)]
def rh(CV:Addr)(v:vV):jo:=(v.a,.ins CV v.dx (HA v))::(v.gl,.lst (v.gs.M λg=>V.ref g.a))::v.gs.flatMap e9
def akA(v:vV):(HA v).Q ("side":Str)=Α (.int (v.side:Nat)):=gK
def akB(v:vV):(HA v).Q ("glimpses":Str)=Α (.ref v.gl):=(fm É).R gK
def WT(h:aU H Æl):H v.a=Α (.ins CV v.dx (HA v)):=h (v.a,_) (by simp[rh])
def akC(h:aU H Æl):H v.gl=Α (.lst (v.gs.M λg=>V.ref g.a)):=h (v.gl,_) (by simp[rh])
def akD(h:aU H Æl)(j:g∈v.gs):aU H (e9 g):=λx q=>h x (by
 ext rh;exact aK _ (aK _ (jg.mpr ⟨g,j,q⟩)))
def jT(classes:LI)(side:Nat)(k:iq):Nat×LI:=(k.shape,oP k.look classes side)
def sI(ms:aI)(classes:LI)(side:Nat)(gs:List iV):List bf:=gs.M (zf (ms.M (jT classes side)))
structure rj(C:Cs)(H:Hp)(p:dZ):Prop where
 l:Lies H Áx
 xK:p.classes.L=16
 c6:p.ao.L<=100
 flags:∀g∈p.ao,g.flags.L<=100
 cells:∀g∈p.ao,∀s∈g.flags,s.cells.L=16
def rj.same{C:Cs}{H H':Hp}{p:dZ}(h:rj C H p)(s:ai H H'):rj C H' p:=⟨h.l.E s,h.xK,h.c6,h.flags,h.cells⟩
structure nh(CK:Addr)(H:Hp)(pk:Addr)(ks:List au):Prop where
 a:H pk=Α (.lst (ks.M λk=>V.ref k.a))
 l:aU H (AY CK ks)
 c6:ks.L<=100000
 look:∀k∈ks,gf k.m.look
def nh.same{CK:Addr}{H H':Hp}{pk:Addr}{ks:List au}(h:Ń ks)(s:ai H H'):nh CK H' pk ks:=⟨s _ _ h.a,h.l.E s,h.c6,h.look⟩
inductive OE(C:Cs)(CK CV:Addr)(vs:ay)(H:Hp)(Q:VK)(E':XK):Prop
 |mk (pk:Addr) (ks:List au) (p:dZ) (side:Nat) (_:vs=[.ref pk,.ref p.a,.int (side:Nat)]) (_:Ń ks) (_:rj C H p) (_:∀H' v,ai H H'->v.side=side->v.gs.M cA.m=sI Ì p.classes side ò->aU H' Æl->i9 H Æl->Q (.ref v.a) H')
section
variable{P:Pg}{w:Wd}{K:FR}{mg:MG}{base:Heap}{CK CL CS N CV:Addr}{C:Cs}
def Bc:bC ["kinds","plate","side","looks","kind","glimpse"] ["kinds","plate","side"] (ba Mu):=cg
def akE{look classes:LI}{side:Nat}(h:gf look):(Àu side).L=16:=by
 ext oP;split
 .rfl
 .rw[ak,h.1]
def akF{f:Addr}{fd:FD}(F:br K "view_of" "view_of" Mu f fd)(T:lx K C)(dV:Ā "View" CV ["side","glimpses"])(dS:Ç 3 "sighting_of" ["kind","classes","side"] År)(dA:Ç 3 "kinds_along" ["looks","glimpse"] (OB C)):
  aZ P w K mg base aE 4 f fd ["kinds","plate","side"] (OE C CK CV):=by
 refine F.ok Bc Â;let(pk,ks,p,side,rfl,hk,M,k):=h;refine⟨_,aB (cf 3 Bc.nd (eA (own:=[("kind",4)]) (te:=g8 År [] E0 (a9 Ãt (a9 (fj K ž "classes") (a9 ř dq)))) Á Bc.nd Åe Ê
   (λ_ _ _ _ _=>cZ 4 Bc.nd) Ò (λ_ _ _ _ _=>bx dS (ae ę (ae Ň ł)))))
  (aA (aV (pV dV hr (ae å (ae (eA (own:=[("glimpse",5)]) (te:=g8 (OB C) [] E0 (a9 Ŀ Åi)) rfl Bc.nd (dX Ň) Ê
   (λ_ _ _ _ _=>cZ 5 Bc.nd) Ò (λ_ _ _ _ _=>bx dA (ae ö ŀ))) af))))),?_⟩
 refine⟨_,Á,pk,Á,⟨_,aa.of hk.a⟩,λD hD=>fV (K:=K) (a:=pk) (xs:=ks.M λk=>V.ref k.a) (jS (gV C) eB.a (λi b=>∀k,ks[i]? =Α k->b.m=jT p.classes side k.m/\b.cells.L=16) H D) Ď (λi H' _ f=>aa.of (f.E _ _ hk.a)) ą þ⟩
 .let(z,j,rfl):=gQ hi;let J:=bj j;let dm:=(bo.mp j).1;let hf:=hk.c6;apply(Á,eJ ⟨_,Á,_,Á,aY (f.E _ _ M.l.pl) T.cP T.DF (GW p) ⟨_,Á,z,p.cl,p.classes,side,Á,(nY hk.l J).E f.E,hk.look z J,aa.of (f.E _ _ M.l.cl),M.xK,λU sg s3 e1 e2 ls fr=>?_⟩⟩);apply jS.step hD Î f s3 sg (λk' Z=>?_) ls fr;rw[j] at Z;cases Z;apply(?_,by rw[e2];exact akE (hk.look z J));ext eB.m jT;symm
 .let(bs,iO,O,fW,r1,l1,fr1):=jS.end f;rw[ak] at iO;let W:Ba C H' D bs:=⟨fW,λb q=>l1 b q,λb q=>by
   let(i,hi,e):=nr q;exact(r1 i b (by grind) ks[i] (cI (by omega))).2⟩
  let em:bs.M eB.m=(ks.M au.m).M (jT p.classes side):=by
   rw[cj];exact Bb iO λi b x j h2=>(r1 i b j x h2).1
  let mQ:=M.E O;let hf:=hk.c6;apply(_,Á,_,Á,aY mQ.l.pl T.cP T.m8 Äx ⟨p.gl,Á,⟨_,aa.of mQ.l.gl⟩,λD2 ck=>fV (K:=K) (a:=p.gl) (xs:=p.ao.M λg=>V.ref g.a) (jS e9 cA.a (λi b=>∀g,p.ao[i]? =Α g->b.m=zf (bs.M eB.m) g.m) H' D2) Ác (λi H2 _ f=>aa.of (f.E _ _ mQ.l.gl)) (λi y H2 hi f=>?_) Æw⟩)
  .let(g,j,rfl):=gQ hi;let J:=bj j;let dm:=(bo.mp j).1;let OF:=M.c6;apply(Á,eJ ⟨_,Á,_,Á,D,bs,g,Á,W.E f.E,by simp_all,(mQ.l.sub J).E f.E,M.flags g J,M.cells g J,λU y s3 e1 ls fr=>?_⟩);apply jS.step ck Î f s3 y (λk' Z=>?_) ls fr;symm
  .let(gs,n0,s2,df,r2,l2,Y):=jS.end f;rw[ak] at n0;apply xE Á λx dx U hx gU aL e3 s3=>?_;apply k U ⟨x,dx,D2,side,gs⟩ (O.R ğ) Á ?_ Âm λy hy=>?_
   .ext sI;rw[cj,<-em];exact Bb n0 λi b x j h2=>r2 i b j x h2
   .simp only[rh,a8] at hy;rcases hy with rfl|rfl|hy
    .exact e3
    .exact s3 _ _ df
    .let(b,q,hy):=jg.mp hy;exact s3 _ _ (l2 b q y hy)
   .simp only[rh,a8] at hy;rcases hy with rfl|rfl|hy
    .exact(O.R s2).free hx
    .exact O.free ck
    .let(b,q,hy):=jg.mp hy;exact O.free (Y b q y hy)
end
def in_nums(x:Nat)(l:LN):wZ (.int (x:Nat)) Èp=l.Y x:=by
 rw[Nh];grind
def HB(h:i<l.L):Èp[i]? =Α (.int ((l.D i 0:Nat):Int)):=by
 symm
def ie(y:cA):y.m.L=y.ls.L:=by ext cA.m;rw[ak]
def D1{y:cA}{i:Nat}{x:dc}(h:y.ls[i]? =Α x):y.m.D i []=x.ns:=by ext cA.m;rw[getD_map h]
def zg(U:Nat)(h:LN)(seen:bf):Bool:=(List.range seen.L).all λi=>(seen.D i []).Y (h.D (U+i) 0)
inductive OG(vs:ay)(H:Hp)(Q:VK)(E':XK):Prop
 |mk (uY:Nat) (h:dc) (y:cA) (_:vs=[.int (uY:Nat),.ref h.a,.ref y.a]) (_:aU H (lsN h)) (_:aU H Çl) (_:uY+y.ls.L<=h.ns.L) (_:y.ls.L<=100) (_:∀H',ai H H'->Q (.bl (zg uY h.ns y.m)) H')
section
variable{P:Pg}{w:Wd}{K:FR}{mg:MG}{base:Heap}{CK CL CS N CV:Addr}{C:Cs}
def OI:bC ["place","hoist","kinds_seen","number","kinds"] ["place","hoist","kinds_seen"] (ba MA):=cg
def akI{f:Addr}{fd:FD}(F:br K "fits_at" "fits_at" MA f fd)(tA:mg "all"=Β)(tE:mg "enumerate"=Β):Ë 1 f fd ["place","hoist","kinds_seen"] OG:=by
 refine F.ok OI Â;let(U,h,y,rfl,Z,M,lX,Ap,k):=h;refine⟨_,aA (aV (c8 (w6 Á) Ð tA zY (ae (eA (own:=[("number",3),("kinds",4)]) (g:=g2 K 3 4) (te:=bQ (FY K false) (bQ Ũ ž (bQ adt Ų Ŀ)) Ãt) Á OI.nd
   (jO Ð tE ł) Ê
   (λ_ _ _ _ _=>iA 3 4 OI.nd) Ò
   (λ_ _ _ _ _=>j7 KA (cJ c9 á (d9 pK Ø ö) Ö) ę (by with_unfolding_all rfl))) af))),?_⟩
 refine⟨_,Á,y.a,_,Á,aa.of (ju M),λD hD=>mh (K:=K) (a:=y.a) (xs:=y.ls.M λx=>V.ref x.a) (cy H D λi v ns=>ns=[]/\v=.bl ((y.m.D i []).Y (h.ns.D (U+i) 0))) Ď (λi H' _ f=>aa.of (f.E _ _ (ju M))) ŕ þ⟩
 .let(l,J,rfl):=gQ hi;let hm:=bj J;let dm:=(bo.mp J).1;let z:ai H' (Ϩ (.tup [.int (i:Nat),.ref l.a])):=aG hT;let W:=f.E.R z;refine à;apply(_,Á,_,Á,_,Á,_,_,Á,Á,h.a,_,_,.int ((h.ns.D (U+i) 0:Nat):Int),Á,Á,aa.of (W _ _ (DY Z)),fZ (j:=U+i) (HB Î),_,Á,l.a,_,Á,.inl (aa.of (W _ _ (nc M hm))),Á,DA _,?_);refine f.step hD Î z Ţ aU.nil Ä;rw[D1 J,<-in_nums];rfl
 .let(ys,z,Y,O,fl):=f.end;rw[ak] at O;apply(D,(List.range y.ls.L).M λi=>(y.m.D i []).Y (h.ns.D (U+i) 0),Á,aa.of (Hz Y O λi v e=>?_),?_)
  .let(ns,(_,e),_):=fl i v e;omega
  .let q:=k H' z;delta zg at q;rw[ie] at q;symm
def oQ(below:Bool)(u:Nat):Nat:=if below=true then 0 else u
def uq(above:Bool)(u:Nat):Nat:=if above=true then u else 0
def OJ(a b:Bool)(u:Nat)(h:LN)(seen:bf):Bool:=(List.range (uq a u+1-oQ b u)).any λi=>zg (oQ b u+i) h seen
def vW(h:LN)(g:iV)(seen:bf):Bool:=OJ g.above g.below (h.L-g.flags.L) h seen
inductive OK(C:Cs)(vs:ay)(H:Hp)(Q:VK)(E':XK):Prop
 |mk (h:dc) (g:cz) (y:cA) (_:vs=[.ref h.a,.ref g.a,.ref y.a]) (_:aU H (lsN h)) (_:Lies H Çi) (_:aU H Çl) (_:y.ls.L=g.flags.L) (_:g.flags.L<=h.ns.L) (_:h.ns.L<=100) (_:∀H',ai H H'->Q (.bl (vW h.ns g.m y.m)) H')
def Bd:bC ["hoist","glimpse","kinds_seen","unseen","first","last","place"] ["hoist","glimpse","kinds_seen"] (ba Mz):=cg
def akJ(F:br K "hoist_fits" "hoist_fits" Mz f fd)(T:lx K C)(tL:mg "len"=Β)(tA:mg "any"=Β)(tR:mg "range"=Β)(W:Ç 1 "fits_at" ["place","hoist","kinds_seen"] OG):Ë 2 f fd ["hoist","glimpse","kinds_seen"] (OK C):=by
 refine F.ok Bd Â;let(h,g,y,rfl,M,J,hy,tP,lX,Ap,k):=h;refine⟨_,aB (cf 3 Bd.nd (d9 rV č (c8 gv Ð tL PySem.boot_len (ae Åh af))))
  (aB (cf 4 Bd.nd (tI (jh Ň) bc ö))
  (aB (cf 5 Bd.nd (tI (jh Ň) ö bc))
  (aA (aV (c8 (KL rfl) Ð tA boot_any (ae (eA (own:=[("place",6)]) (te:=g8 OG [] E0 (a9 (ax 6) (a9 Ų (a9 ř dq)))) rfl Bd.nd (ac1 Ð tR (ae ę (ae (d9 pK Ãd bc) af))) Ê
   (λ_ _ _ _ _=>cZ 6 Bd.nd) Ò (λ_ _ _ _ _=>bx W (ae Ϫ (ae Ø ł)))) af)))))),?_⟩
 let Z:((h.ns.L:Nat):Int)-((g.flags.L:Nat):Int)=((h.ns.L-g.flags.L:Nat):Int):=by grind
 apply(_,Á,h.a,_,Á,.inl (aa.of (DY M)),_,Á,aY J.ga T.cG T.vM (vL g) ⟨g.l,_,Á,.inl (aa.of J.fl),_,_,Á,Á,?_⟩);dsimp only;rw[dw,gO,ak,Z];let k:=k;delta vW at k;rw[show g.m.flags.L=g.flags.L by ext cz.m;rw[ak],show g.m.above=g.above from rfl,show g.m.below=g.below from rfl] at k;generalize hu:h.ns.L-g.flags.L=u at k;delta OJ at k;apply Gr g.below (.int ((oQ g.below u:Nat):Int)) (λK q=>⟨_,Á,aY J.ga T.cG T.Nq (Nn g) ⟨_,Á,q⟩⟩) ϸ (λe K q=>Ę) ?_
 .rw[e] at q;exact q
 .rw[e] at q;exact q
 .dsimp only;apply U7 (U6 g.above (.int ((uq g.above u:Nat):Int)) (λK q=>⟨_,Á,aY J.ga T.cG T.Np (Nm g) ⟨_,Á,q⟩⟩) (λe K q=>Ę) ϸ ?_)
  .rw[e] at q;exact q
  .rw[e] at q;exact q
  .let O:oQ g.below u<=u:=by ext oQ;split <;> simp_all
   let U:uq g.above u<=u:=by ext uq;split <;> simp_all
   generalize oQ g.below u=j at O k;generalize uq g.above u=z at U k;apply(_,Á,_,Á,_,_,Á,Á,(j:Int),((z:Int)+1),Á,⟨by simp_all,by lia,by lia,by lia⟩,λD hD=>?_);rw[show(((z:Nat):Int)+1-(j:Nat)).toNat=z+1-j by simp_all];refine CZ (lo:=(j:Int)) (n:=z+1-j) (cy H D λi v ns=>ns=[]/\v=.bl (zg (j+i) h.ns y.m)) Ď Ây þ
   .apply(Á,eJ ⟨_,Á,_,Á,_,Á,j+i,h,y,?_,aU.E M f.E,aU.E hy f.E,by omega,by lia,λH3 s3=>?_⟩)
    .rfl
    .exact f.step hD (by omega) s3 ⟨Á,Á⟩ aU.nil Ä
   .let(ys,s1,fW,Y,fl):=f.end;apply(D,(List.range (z+1-j)).M λi=>zg (j+i) h.ns y.m,Á,aa.of (Hz fW Y λi v e=>?_),?_)
    .let(ns,(_,e),_):=fl i v e;omega
    .symm
def oR:bf->List iV->List bf->Bool
 |h::hs,g::gs,s::ss=>vW h g s&&oR hs gs ss
 |_,_,_=>true
inductive OL(C:Cs)(CV:Addr)(vs:ay)(H:Hp)(Q:VK)(E':XK):Prop
 |mk (y:cA) (p:dZ) (v:vV) (_:vs=[.ref y.a,.ref p.a,.ref v.a]) (_:aU H Çl) (_:rj C H p) (_:aU H Æl) (_:y.ls.L=p.ao.L) (_:v.gs.L=p.ao.L) (_:(∀(i:Nat)(h:dc)(g:cz)(s:cA),y.ls[i]? =Α h->p.ao[i]? =Α g->v.gs[i]? =Α s->s.ls.L=g.flags.L/\g.flags.L<=h.ns.L/\h.ns.L<=100)) (_:∀H',ai H H'->Q (.bl (oR y.m ò ϶)) H')
theorem akK(hs:bf):∀(gs:List iV)(ss:List bf),hs.L=gs.L->ss.L=gs.L->oR hs gs ss=(List.range hs.L).all λi=>vW (hs.D i []) (gs.D i ⟨false,false,[]⟩) (ss.D i []):=by
 induction hs with
 |nil=>
  intro gs ss j h2;cases gs with
  |nil=>cases ss with
   |nil=>rfl
   |cons _ _=>cases h2
  |cons _ _=>cases j
 |cons h hs q=>
  intro gs ss j h2;cases gs with
  |nil=>cases j
  |cons g gs=>cases ss with
   |nil=>cases h2
   |cons s ss=>
    let q:=q gs ss (À j) (À h2);ext oR;rw[q,dg,zW,tq,rH];rfl
def OM:bC ["hoists","plate","view","j","hoist"] ["hoists","plate","view"] (ba My):=cg
def akL{f:Addr}{fd:FD}(F:br K "fits" "fits" My f fd)(T:lx K C)(W:jt K CV ["side","glimpses"])(tA:mg "all"=Β)(tE:mg "enumerate"=Β)(dF:Ç 2 "hoist_fits" ["hoist","glimpse","kinds_seen"] (OK C)):Ë 3 f fd ["hoists","plate","view"] (OL C CV):=by
 refine F.ok OM Â;let(y,p,v,rfl,U,M,O,eZ,jM,aD,k):=h;refine⟨_,aA (aV (c8 (w6 Á) Ð tA zY (ae (eA (own:=[("j",3),("hoist",4)]) (g:=g2 K 3 4) (te:=g8 (OK C) [] E0 (a9 Ãt (a9 (bQ Ũ (fj K ž "glimpses") Ŀ) (a9 (bQ Ũ (fj K ř "glimpses") Ŀ) dq)))) Á OM.nd
   (Ás) Ê
   (λ_ _ _ _ _=>iA 3 4 OM.nd) Ò
   (λ_ _ _ _ _=>bx dF (ae ę (ae (cJ c9 Ň ö Ö) (ae (cJ c9 Àt ö Ö) af))))) af))),?_⟩
 let Ap:=M.c6;rw[akK _ _ _ (by rw[ie,ak];exact eZ) Å,ie] at k;refine⟨_,Á,y.a,_,Á,aa.of (ju U),λD hD=>mh (K:=K) (a:=y.a) (xs:=y.ls.M λx=>V.ref x.a) (cy H D λi u ns=>ns=[]/\u=.bl (vW Èc ((p.ao.M cz.m).D i ⟨false,false,[]⟩) ((v.gs.M cA.m).D i []))) Ď (λi H' _ f=>aa.of (f.E _ _ (ju U))) ŕ þ⟩
 .let(l,q,rfl):=gQ hi;let hm:=bj q;let dm:=(bo.mp q).1;let s1:ai H' (Ϩ (.tup [.int (i:Nat),.ref l.a])):=aG hT;let j:=f.E.R s1;obtain⟨g,J⟩:∃g,p.ao[i]? =Α g:=⟨_,cI Å⟩;obtain⟨z,hz⟩:∃z,v.gs[i]? =Α z:=⟨_,cI Å⟩;let(o1,o2,o3):=aD i l g z q J hz;let HC:=bj J;let Z:=bj hz;refine à;refine⟨_,Á,_,Á,aY (j _ _ M.l.pl) T.cP T.m8 Äx ⟨_,Á,p.gl,_,_,.ref g.a,Á,Á,aa.of (j _ _ M.l.gl),fZ (by rw[bz,J];rfl),
   _,rfl,aY (j _ _ (WT O)) W.1 (W.2 _ Ä) (akB v) ⟨_,rfl,v.gl,_,_,.ref z.a,rfl,rfl,aa.of (j _ _ (akC O)),fZ (by rw[bz,hz];rfl),l,g,z,rfl,λx hx=>?_,(M.l.sub HC).E j,(akD O Z).E j,o1,o2,o3,λH3 s3=>?_⟩⟩⟩
  .exact j _ _ (U x (by ext e9;exact aK _ (jg.mpr ⟨l,hm,hx⟩)))
  .refine f.step hD Î Åz Ţ aU.nil Ä;rw[D1 q,getD_map J,getD_map hz]
 .let(ys,s1,fW,Y,fl):=f.end;rw[ak] at Y;apply(D,_,Á,aa.of (Hz (b:=λi=>vW Èc ((p.ao.M cz.m).D i ⟨false,false,[]⟩) ((v.gs.M cA.m).D i [])) fW Y λi v e=>?_),?_)
  .let(ns,(_,e),_):=fl i v e;omega
  .symm
end
def p7(p:Nat->Bool)(g:Nat->Int)(n:Nat):LI:=((List.range n).J p).M g
def ni(H1:Hp)(D:Addr)(p:Nat->Bool)(g:Nat->Int)(i:Nat)(H:Hp):Prop:=ai H1 H/\H D=Α (.lst (iv (p7 p g i)))
def ni.zero(j:H1 D=Β):ni H1 D p g 0 Đ:=⟨aG j,aq⟩
def akM(p:Nat->Bool)(g:Nat->Int)(i:Nat):(p7 p g i).L<=i:=by
 ext p7;grind
def ni.yes(j:H1 D=Β)(hi:i<1000000)(f:ni H1 D p g i H)(s:ai H H4)(h:p i=true)(q:v=V.int (g i)):lh D (ni H1 D p g (i+1)) v H4:=by
 subst q;apply(_,s _ _ f.2,?_,fc (f.1.R s) j,?_)
 .rw[dw];let:=akM p g i;exact f7 Î
 .ext p7;rw[aq,D0,ah h,bH];simp
def ni.no(f:ni H1 D p g i H)(s:ai H H4)(h:¬p i=true):ni H1 D p g (i+1) H4:=by
 apply(f.1.R s,?_);ext p7;rw[D0,ag h,jF];exact s _ _ f.2
def fe(H1:Hp)(D:Addr)(g:Nat->Int)(i:Nat)(H:Hp):Prop:=ai H1 H/\H D=Α (.lst (iv ((List.range i).M g)))
def fe.zero(j:H1 D=Β):fe H1 D g 0 Đ:=⟨aG j,aq⟩
def fe.step(j:H1 D=Β)(hi:i<1000000)(f:fe H1 D g i H)(s:ai H H4)(q:v=V.int (g i)):lh D (fe H1 D g (i+1)) v H4:=by
 subst q;apply(_,s _ _ f.2,?_,fc (f.1.R s) j,?_)
 .rw[dw,ak,ik];exact f7 Î
 .rw[aq,JQ,bH];simp
def mr(ms:aI)(s:Nat):Int:=(ms.D s eW).lG
def Be(ms:aI)(sames row:LN)(above b:Nat):Bool:=decide (mr ms ŋ<=(above:Int))&&decide (row.D ((mr ms ŋ).toNat-1) 0=row.D above 0)
def HE(ms:aI)(sames row:LN)(above:Nat):Int:=(p7 (Be ms sames row above) (λb=>2^b) sames.L).sum
structure D5(ms:aI)(sames:LN):Prop where
 c6:sames.L<=1000
 lt:∀s∈sames,s<ms.L
 pos:∀s∈sames,1<=mr ms s
inductive ON(CK:Addr)(vs:ay)(H:Hp)(Q:VK)(E':XK):Prop
 |mk (pk ps pr:Addr) (ks:List au) (sames row:LN) (above:Nat) (_:vs=[.ref pk,.ref ps,.ref pr,.int (above:Nat)]) (_:Ń ks) (_:H ps=Α Àb) (_:D5 Ì sames) (_:H pr=Α Äi) (_:above<row.L) (_:∀H',ai H H'->Q (.int (HE Ì sames row above)) H')
section
variable{P:Pg}{w:Wd}{K:FR}{mg:MG}{base:Heap}{CK CL CS N CV:Addr}{C:Cs}
def D7:bC ["kinds","sames","row","above","whiches","number","bit","which"] ["kinds","sames","row","above"] (ba MO):=cg
def boot_sum:bootBuiltins "sum"=Α (.builtin "sum"):=by decide+kernel
def akN(F:br K "bits_of_sames" "bits_of_sames" MO f fd)(T:ud K CK)(tS:mg "sum"=Β)(tE:mg "enumerate"=Β):Ë 1 f fd ["kinds","sames","row","above"] (ON CK):=by
 refine F.ok D7 Â;let(pk,ps,pr,ks,sames,row,above,rfl,hk,lK,J,il,lu,k):=h;refine⟨_,aB (tQ (i:=4) (own:=[("number",5)]) (te:=fj K (bQ Ũ Ų (ax 5)) "which") Á D7.nd Á Á Ð Åd Ê
   (λ_ _ _ _ _=>cZ 5 D7.nd) Ò (λ_ _ _ _ _=>aX (cJ c9 Ø Ãd Ö) rfl))
  (aA (aV (c8 (KF rfl) Ð tS boot_sum (ae (eA (own:=[("bit",6),("which",7)]) (g:=g2 K 6 7) (tt:=FF (mX (bQ (gE λi j=>.bl (decide (i<=j))) Æj Ŀ)) (mX (bQ pL (bQ Ũ ř (bQ (gE λi j=>.int (i-j)) Æj Äq)) (bQ Ũ ř Ŀ)))) (te:=bQ (rI Kk λi j=>.int (i*2^j.toNat)) Äq (ax 6)) rfl D7.nd
   (jO Ð tE ŝ) Ê
   (λ_ _ _ _ _=>iA 6 7 D7.nd)
   (λ_ _ _ _ _=>oE (PW.pt (pw_and (cw yA Èe ö (bU _)) (pw_and1 (cw iB (cJ c9 å (d9 rV Èe bc) Ö) (cJ c9 å ö Ö) (bU _))))))
   (λ_ _ _ _ _=>d9 FT bc Ϫ)) af)))),?_⟩
 refine⟨_,Á,ps,Á,⟨_,aa.of lK⟩,λD hD=>fV (K:=K) (a:=ps) (xs:=iv (nv sames)) (fe H D λi=>mr Ì Ŋ) Áa (λi H' _ f=>aa.of (f.1 _ _ lK)) ą þ⟩
 .let(z,hz,rfl):=jr hi;let dm:=(bo.mp hz).1;let D4:=bj hz;let Y:=J.lt z D4;let WV:=J.c6;rw[ak] at Y;obtain⟨b,hb⟩:∃b,ks[z]? =Α b:=⟨_,cI Y⟩;apply(Á,eJ ⟨_,Á,_,Á,pk,_,_,.ref b.a,Á,Á,aa.of (f.1 _ _ hk.a),fZ Å,aY (jQ ((nY hk.l Èt).E f.1)) T.c T.N5 (NZ b) ?_⟩);apply fe.step hD Î f Ĥ ?_;ext mr;symm
 .let hd:=f.2;let s1:=f.1;rw[dw,gO] at hd;apply(_,Á,D,_,Á,aa.of hd,λU Z=>mh (K:=K) (a:=D) (xs:=iv ((List.range sames.L).M λi=>mr Ì Ŋ)) (ni H' U (Be Ì sames row above) (λb=>2^b)) (ni.zero Z) (λi H2 _ f=>aa.of (f.1 _ _ hd)) (λi x Tt H2 hi f2 hT=>?_) Åw)
  .let(z,hz,rfl):=ua hi;rw[bz] at hz;cases er:(List.range sames.L)[i]? with
   |none=>symm
   |some j=>
    rw[er] at hz;let dm:=(bo.mp er).1;rw[ik] at dm;cases yY er;let hz:mr Ì Ŋ=z:=aQ hz;subst hz;let WV:=J.c6;let WW:=J.pos Ŋ Å;let M:ai H2 (Ū (.tup [.int (i:Nat),.int (mr Ì Ŋ)])):=aG hT;let O:=(s1.R f2.1).R M;refine è;let eb:Be Ì sames row above i=(decide (mr Ì Ŋ<=(above:Int))&&decide (row.D ((mr Ì Ŋ).toNat-1) 0=row.D above 0)):=rfl;generalize mr Ì Ŋ=W at WW eb M O;apply and_val (decide (W<=(above:Int))) (decide (row.D (W.toNat-1) 0=row.D above 0)) (λK q=>⟨_,Á,_,Á,_,_,Á,Á,_,Á,q⟩) (λhc K q=>?_) (a0 Ï Ï)
    .let lX:=mO hc;apply(_,Á,_,Á,_,_,Á,Á,pr,_,_,.int ((row.D (W.toNat-1) 0:Nat):Int),Á,Á,aa.of (O _ _ il),?_,_,Á,_,Á,pr,_,_,.int ((row.D above 0:Nat):Int),Á,Á,aa.of (O _ _ il),fZ (HB lu),Á,_,Á,?_)
     .rw[show W-1=((W.toNat-1:Nat):Int) by lia];exact fZ (HB Î)
     .rw[nF];omega
    .apply(_,Á,_,_,Á,Á,⟨by simp_all,by lia,by decide⟩,?_);apply f2.yes Z Î M (eb.R hc) ?_;simp
    .exact f2.no M Å
  .let e:=f2.2;rw[dw,ak,ik] at e;exact(U,_,Á,aa.of e,k H2 (s1.R f2.1))
end
def Ea(K:FR)(t:TE):TT:=λσ H Q=>t σ H λx H'=>∃k,Kq K x H' k/\Q k H'
def ur(ms:aI)(sames row:LN)(above:Nat):Nat:=(((List.range sames.L).J (Be ms sames row above)).M (2^ ·)).sum
theorem akO(l:LN):(nv l).sum=((l.sum:Nat):Int):=by
 induction l with
 |nil=>rfl
 |cons a l j=>
  symm
def akP(ms:aI)(sames row:LN)(above:Nat):HE ms sames row above=((ur ms sames row above:Nat):Int):=by
 ext HE ur p7;rw[<-akO];ext nv;rw[cj];congr 1
def rk(ms:aI)(sames row:LN):LN:=(List.range row.L).M (ur ms sames row)
inductive OO(CK:Addr)(vs:ay)(H:Hp)(Q:VK)(E':XK):Prop
 |mk (pk ps pr:Addr) (ks:List au) (sames row:LN) (_:vs=[.ref pk,.ref ps,.ref pr]) (_:Ń ks) (_:H ps=Α Àb) (_:D5 Ì sames) (_:H pr=Α Äi) (_:row.L<=1000) (_:∀H' p,Ů p (.lst (iv (nv (rk Ì sames row))))->Q Ĝ H')
def iu(g b:Nat):Bool:=Builtin.bitAnd (b:Int) (Builtin.bitNot (g:Int))!=0
def sJ(g:Nat)(j:LN):Nat:=(j.J (iu g)).L
inductive OP(K:FR)(vs:ay)(H:Hp)(Q:VK)(E':XK):Prop
 |mk (g:Nat) (pp:Addr) (places:LN) (_:vs=[.int (g:Nat),.ref pp]) (_:ä pp (iv (nv places))) (_:places.L<=1000) (_:∀H',ai H H'->Q (.int ((sJ g places:Nat):Int)) H')
def zh(g b:Nat):Bool:=Builtin.bitAnd ((g:Int)/2^b) 1!=0
def sL(ms:aI)(sames:LN)(g:Nat):Int:=(p7 (zh g) (λb=>(ms.D ŋ eW).copies) sames.L).sum
inductive OQ(CK:Addr)(vs:ay)(H:Hp)(Q:VK)(E':XK):Prop
 |mk (g:Nat) (pk ps:Addr) (ks:List au) (sames:LN) (_:vs=[.int (g:Nat),.ref pk,.ref ps]) (_:Ń ks) (_:H ps=Α Àb) (_:D5 Ì sames) (_:∀H',ai H H'->Q (.int (sL Ì sames g)) H')
section
variable{P:Pg}{w:Wd}{K:FR}{mg:MG}{base:Heap}{CK CL CS N CV:Addr}{C:Cs}
def OR:bC ["kinds","sames","row","above"] ["kinds","sames","row"] (ba MN):=cg
def akQ(F:br K "sames_along" "sames_along" MN f fd)(tL:mg "len"=Β)(W:mg "range"=Β)(z:Ç 1 "bits_of_sames" ["kinds","sames","row","above"] (ON CK)):Ë 2 f fd ["kinds","sames","row"] (OO CK):=by
 refine F.ok OR Â;let(O,ps,q,ks,sames,row,rfl,hk,M,J,j,Y,k):=h;refine⟨_,aA (aV (eA (own:=[("above",3)]) (te:=g8 (ON CK) [] E0 (a9 Ų (a9 ž (a9 ř Âk)))) Á OR.nd (FJ Ð W (ae ā af)) Ê
  (λ_ _ _ _ _=>cZ 3 OR.nd) Ò (λ_ _ _ _ _=>bx z (ae Ø (ae á (ae å ĳ)))))),?_⟩
 apply(_,Á,q,_,Á,.inl (aa.of j),(row.L:Int),by simp,by simp_all,by lia,λD hD=>?_);rw[BU];refine CZ (lo:=0) (n:=row.L) (fe H D λi=>HE Ì sames row i) Áa Ây þ
 .apply(Á,eJ ⟨_,Á,_,Á,_,Á,_,Á,O,ps,q,ks,sames,row,i,?_,hk.E f.1,f.1 _ _ M,J,f.1 _ _ j,hi,λZ U=>?_⟩)
  .simp
  .exact fe.step hD Î f U Á
 .apply k H' D ⟨f.1,hD,?_⟩;rw[f.2];ext rk nv;rw[cj];congr 3;exact iT λi _=>akP _ _ _ i
def OS:bC ["group","places","bits"] ["group","places"] (ba MR):=cg
def akR(F:br K "places_outside" "places_outside" MR f fd)(O:mg "len"=Β):Ë 1 f fd ["group","places"] (OP K):=by
 refine F.ok OS Â;let(g,J,places,rfl,Z,U,k):=h;refine⟨_,aA (aV (c8 gv Ð O PySem.boot_len (ae (eA (own:=[("bits",2)]) (tt:=Ea K (bQ (gE λi j=>.int ś) ř (FP (rU λi=>.int Ås) Ų))) (te:=ax 2) Á OS.nd Åd Ê
  (λ_ _ _ _ _=>cZ 2 OS.nd) (λ_ _ _ _ _=>oE (Ai (d9 yy å (iU SM Ø)) Än)) Äp) af))),?_⟩
 refine⟨_,Á,J,Á,⟨_,Z⟩,λD q=>fV (K:=K) (a:=J) (xs:=iv (nv places)) (ni H D (λi=>iu g Æg) (λi=>((places.D i 0:Nat):Int))) (ni.zero q) (λi H' _ f=>f.1.seq Z) ą þ⟩
 .let(z,hz,rfl):=jr hi;let W:=(bo.mp hz).1;refine⟨Á,_,Á,_,Á,_,Á,_,_,Á,Á,_,Á,a0 Ï Ï⟩
  .exact(_,Á,f.yes q (by omega) Ĥ (by rw[getD_at hz];exact hc) Å)
  .exact f.no Ĥ (by rw[getD_at hz];exact hc)
 .let e:=f.2;rw[dw,gO] at e;apply(D,_,Á,.inl (aa.of e),?_);let el:(iv (p7 (λi=>iu g Æg) (λi=>((places.D i 0:Nat):Int)) places.L)).L=sJ g places:=by
   rw[dw];ext p7 sJ;rw[ak];let M:((List.range places.L).J λi=>iu g Æg).L=(((List.range places.L).M λi=>places.D i 0).J (iu g)).L:=by
    rw[wI,ak];rfl
   rw[M];let h2:=vU (l:=places) (g:=λx=>x) (d:=0);symm
  rw[el];exact k H' f.1
def OT:bC ["group","kinds","sames","bit","number"] ["group","kinds","sames"] (ba MS):=cg
def akS(F:br K "copies_in" "copies_in" MS f fd)(T:ud K CK)(tS:mg "sum"=Β)(tE:mg "enumerate"=Β):Ë 1 f fd ["group","kinds","sames"] (OQ CK):=by
 refine F.ok OT Â;let(g,Z,ps,ks,sames,rfl,hk,U,M,k):=h;refine⟨_,aA (aV (c8 (KF Á) Ð tS boot_sum (ae (eA (own:=[("bit",3),("number",4)]) (g:=g2 K 3 4) (tt:=Ea K (bQ (gE λi j=>.int ś) (bQ (rI (λ_ j=>0<=j) λi j=>.int (i/2^j.toNat)) Ų Ŀ) Äq)) (te:=fj K (bQ Ũ ž Ãt) "copies") Á OT.nd
  (jO Ð tE ł) Ê
  (λ_ _ _ _ _=>iA 3 4 OT.nd)
  (λ_ _ _ _ _=>oE (Ai (d9 yy (d9 Km Ø ö) bc) Än)) (λ_ _ _ _ _=>aX (cJ c9 á ę Ö) rfl)) af))),?_⟩
 refine⟨_,Á,ps,_,Á,aa.of U,λD O=>mh (K:=K) (a:=ps) (xs:=iv (nv sames)) (ni H D (zh g) (λb=>((ks.M au.m).D ŋ eW).copies)) (ni.zero O) (λi H' _ f=>aa.of (f.1 _ _ U)) ŕ þ⟩
 .let(z,hz,rfl):=jr hi;let dm:=(bo.mp hz).1;let Y:=bj hz;let J:=M.lt z Y;let WV:=M.c6;rw[ak] at J;obtain⟨b,hb⟩:∃b,ks[z]? =Α b:=⟨_,cI J⟩;let q:ai H' (Ϩ (.tup [.int (i:Nat),.int (z:Nat)])):=aG hT;let W:=f.1.R q;refine è;refine⟨_,Á,_,Á,_,_,Á,Á,RZ i,_,_,Á,Á,_,Á,a0 Ï Ï⟩
  .exact(_,Á,_,Á,Z,_,_,.ref b.a,Á,Á,aa.of (W _ _ hk.a),fZ Å,aY (jQ ((nY hk.l Èt).E W)) T.c T.N6 (N0 b) (f.yes O Î q hc Å))
  .exact f.no q hc
 .let e:=f.2;rw[dw,gO] at e;exact(D,_,Á,aa.of e,k H' f.1)
end
def gI(n:Nat):V:=.int (n:Nat)
def oneMore(t:cE)(s:Nat):cE:=eT t s ((cq t s).D 0+1)
def gX(F:LN):cE:=F.foldl oneMore []
def Ed(l:LN)(s:Nat):gX (l++[s])=oneMore (gX l) s:=by
 ext gX;simp
def snoc_ind{α:Type}{P:List α->Prop}(j:P [])(hs:∀l a,P l->P (l++[a]))(l:List α):P l:=by
 let h:∀m:List α,P m.reverse:=λm=>by
  induction m with
  |nil=>exact j
  |cons a m q=>symm
 let:=h l.reverse;symm
def OU(l:LN):(gX l).L<=l.L:=by
 refine snoc_ind (P:=λl=>(gX l).L<=l.L) (bA _) Äl l;rw[Ed,j4];let:=Va (gX l) s ((cq (gX l) s).D 0+1);ext oneMore;grind
def HF(l:LN):((gX l).M (·.1)).Nodup:=by
 refine snoc_ind (P:=λl=>((gX l).M (·.1)).Nodup) z6 Äl l;rw[Ed];exact Gv ih
def WX(l:LN)(s:Nat):(cq (gX l) s).D 0=l.count s:=by
 refine snoc_ind (P:=λl=>(cq (gX l) s).D 0=l.count s) Á Ϙ l;rw[Ed];ext oneMore;rw[Gu,List.count_append];by_cases h:s=x
 .subst h;rw[ah rfl,ih,List.count_singleton_self];rfl
 .rw[ag h,ih,List.count_eq_zero_of_not_mem (l:=[x]) (À h)];rfl
def WY(l:LN)(s:Nat):(cq (gX l) s).isSome=l.Y s:=by
 refine snoc_ind (P:=λl=>(cq (gX l) s).isSome=l.Y s) Á Ϙ l;rw[Ed];ext oneMore;rw[Gu];by_cases h:s=x
 .subst h;rw[ah rfl];simp
 .rw[ag h,ih];simp[h]
def WZ(h:p∈gX l):p.1∈l:=by
 let j:=AE (HF l) (s:=p.1) (v:=p.2) h;let h2:=WY l p.1;symm
def uu(ms:aI)(s:Nat):Int:=(ms.D s eW).copies
def p9(ms:aI)(p:Nat×Nat):Option (Nat×Int):=if (p.2:Int)>uu ms p.1 then some (p.1,(p.2:Int)-uu ms p.1) else none
def jU(ms:aI)(F:LN):List (Nat×Int):=(gX F).filterMap (p9 ms)
theorem HG(ms:aI):∀t:cE,((t.filterMap (p9 ms)).M (·.1)).Sublist (t.M (·.1)):=by
 intro t;induction t with
 |nil=>exact abr _
 |cons p t j=>
  let j:=j;rw[BV,a7];let q:p9 ms p=Β\/∃z,p9 ms p=Α (p.1,z):=by
   ext p9;split
   .exact .inr ⟨_,Á⟩
   .exact .inl Á
  rcases q with e|⟨z,e⟩
  .rw[e];exact List.Sublist.cons _ j
  .rw[e];exact List.Sublist.cons₂ _ j
structure OV(H:Hp)(y:cA)(n:Nat):Prop where
 l:aU H Çl
 c6:y.ls.L<=1000
 short:∀x∈y.ls,x.ns.L<=1000
 lt:∀x∈y.ls,∀s∈x.ns,s<n
inductive W1(CK:Addr)(vs:ay)(H:Hp)(Q:VK)(E':XK):Prop
 |mk (pk:Addr) (ks:List au) (y:cA) (_:vs=[.ref pk,.ref y.a]) (_:Ń ks) (_:OV H y ks.L) (_:∀H' p,Ů p (.dK (bW V.int Äy))->Q Ĝ H')
section
variable{P:Pg}{w:Wd}{K:FR}{mg:MG}{base:Heap}{CK CL CS N CV CP:Addr}{C:Cs}
def W2:bootBuiltins "dict"=Α (.type "dict"):=by decide+kernel
def Bf:bC ["kinds","rows","used","row","sign","times"] ["kinds","rows"] (ba MM):=cg
def akT(F:br K "copies_lacking" "copies_lacking" MM f fd)(T:ud K CK)(tD:mg "dict"=Β):Ë 1 f fd ["kinds","rows"] (W1 CK):=by
 refine F.ok Bf Â;let(pk,ks,y,rfl,hk,Z,k):=h;refine⟨_,aB (cf 2 Bf.nd C6)
  (aB (Į Åd (cZ 3 Bf.nd) (aA (Į (dX ö) (cZ 4 Bf.nd)
   (aA (F5 Èj å ę (d9 pK (aeW Èj å ę bc ⟨rfl,rfl,rfl,rfl⟩) bc) rfl)))))
  (aA (aV (vx (ae9 rfl) Ð tD W2 (ae (afe (eA (own:=[("sign",4),("times",5)]) (g:=g2 K 4 5) (tt:=mX (bQ (gE λi j=>.bl (decide (j<i))) (ax 5) (fj K (bQ Ũ Ų Ãt) "copies")))
   (te:=vt (a9 Ãt (a9 (bQ (gE λi j=>.int (i-j)) (ax 5) (fj K (bQ Ũ Ų Ãt) "copies")) dq))) rfl Bf.nd (Uv å) Ê
   (λ_ _ _ _ _=>iA 4 5 Bf.nd)
   (λ_ _ _ _ _=>oE (cw rW Ãd (aX (cJ c9 Ø ę Ö) rfl) (bU _)))
   (λ_ _ _ _ _=>rX (ae ę (ae (d9 rV Ãd (aX (cJ c9 Ø ę Ö) rfl)) af))))) af))))),?_⟩
 intro d hd;let uv:ai H (upd H d Ϥ):=aG hd;let W3:∀i,(y.ls.take i |>.map dc.ns).flatten.length<=1000000:=λi=>by
  let M:∀(l:List dc),(∀x∈l,x.ns.L<=1000)->(l.M dc.ns).flatten.length<=1000*l.L:=by
   intro l;induction l with
   |nil=>simp
   |cons a l ih=>
    grind
  let h2:=M (y.ls.take i) λx hx=>Z.short x (zX hx);let h3:=Z.c6;grind
 refine⟨_,Á,y.a,Á,⟨_,aa.of (uv _ _ (ju Z.l))⟩,pJ (K:=K) (a:=y.a) (xs:=y.ls.M λx=>V.ref x.a) (λi σ H'=>∃v3 Y,σ=[some Ær,some Áe,some Áf,v3,Y,none]/\ai H H'/\H' d=Α (.dK (bW gI (gX (y.ls.take i |>.map dc.ns).flatten))))
  ⟨none,none,rfl,uv,aq⟩ (λi σ H' _ ⟨_,_,_,s1,_⟩=>aa.of (s1 _ _ (ju Z.l))) ?_ ?_⟩
 .rintro i x σ H' hi ⟨v3,Y,rfl,s1,vX⟩;let(r,M,rfl):=gQ hi;let hm:=bj M;let et:=take_snoc M;let HH:=nc Z.l hm;let W:=W3 (i+1);rw[et,bH,at1] at W;let W:((y.ls.take i |>.map dc.ns).flatten++r.ns).L<=1000000:=by simpa using W
  refine⟨_,Á,r.a,Á,⟨_,aa.of (s1 _ _ HH)⟩,pJ (K:=K) (a:=r.a) (xs:=iv (nv r.ns)) (λj σ H'=>∃Y,σ=[some Ær,some Áe,some Áf,some (.ref r.a),Y,none]/\ai H H'/\H' d=Α (.dK (bW gI (gX ((y.ls.take i |>.map dc.ns).flatten++r.ns.take j)))))
   ⟨Y,rfl,s1,by rw[List.take_zero,jF];exact vX⟩ (λj σ H' _ ⟨_,_,J,_⟩=>aa.of (J _ _ HH)) ?_ ?_⟩
  .rintro j x σ H2 hj ⟨Y,rfl,J,U⟩;let(z,hz,rfl):=jr hj;let oC:=(bo.mp hz).1;let uw:=take_snoc hz;generalize hF:(y.ls.take i |>.map dc.ns).flatten=F0 at U W⊢;let gH:=OU (F0++r.ns.take j);rw[j4,iR] at gH;rw[j4] at W;generalize hT:gX (F0++r.ns.take j)=O at U gH;apply(_,Á,d,Á,.inl ⟨_,.inl U⟩,_,Á,(cq O z).M gI,?_,((cq O z).D 0:Nat),1,?_,Á,_,Á,_,Á,d,_,Á,xf.k (k:=Sum.inl ((z:Nat):Int)) U (by rw[yN];exact f7 Î),?_)
   .let q:=lj.k (k:=(Sum.inl ((z:Nat):Int):Key)) U;rw[AD] at q;exact q
   .cases cq O z <;> rfl
   .apply(_,Á,sr J hd,?_);rw[aq,uw,<-rJ,Ed,hT];ext oneMore;rw[<-Do];rfl
  .symm
 .rintro σ H' ⟨v3,Y,rfl,s1,vX⟩;rw[ak,i4] at vX;let ef:(y.ls.M dc.ns).flatten=y.m.flatten:=rfl;rw[ef] at vX;let hmu:=True.intro;apply(d,_,vX,hmu,λod=>?_);let sl:ai H (upd H' d Èw):=sr s1 hd;let nj:(upd H' d Èw) d=Α Èw:=aq;generalize upd H' d Èw=H1 at sl nj;let gH:=OU y.m.flatten;let W:=W3 y.ls.L;rw[i4,ef] at W;let bO:∀p∈gX y.m.flatten,p.1<ks.L:=λp hp=>by
   let M:=WZ hp;let(l,hl,h2):=R1.mp M;delta cA.m at hl;let(x,hx,rfl):=bG.mp hl;exact Z.lt x hx _ h2
  let Ee:=HF y.m.flatten;let OW:jU Ì y.m.flatten=(gX y.m.flatten).filterMap (p9 Ì):=rfl;generalize gX y.m.flatten=O at nj gH bO Ee OW;refine⟨_,Á,d,od,_,Á,nj,λD hD=>agf (d:=d) (o:=od) (kvs:=bW gI O) (λi H2=>∃ps:LA,ai H1 H2/\H2 D=Α (.lst Àk)/\ps.L<=i/\Paired (λp kv=>H2 p=Α (.tup [kV kv.1,kv.2])) ps (bW V.int ((O.take i).filterMap (p9 Ì))))
   ⟨[],aG hD,aq,bA _,.nil⟩ (λi H2 _ ⟨_,J,_⟩=>J _ _ nj) ?_ ?_⟩
  .rintro i kk vv Tt H2 hi ⟨ps,J,ck,dY,il⟩ hT;let(sg,n,M,rfl,rfl):=Ll gI hi;let dm:=(bo.mp M).1;let et:=take_snoc M;let pP:=bO _ (bj M);obtain⟨b,hb⟩:∃b,ks[sg]? =Α b:=⟨_,cI pP⟩;let xp:=bj hb;let s3:ai H2 (Ū (.tup [.int (sg:Nat),.int (n:Nat)])):=aG hT;let s4:=(sl.R J).R s3;let ec:uu Ì sg=b.m.copies:=by ext uu;rw[getD_map hb]
   refine è;refine⟨_,Á,_,Á,_,Á,pk,_,_,.ref b.a,Á,Á,aa.of (s4 _ _ hk.a),fZ Å,aY (jQ ((nY hk.l xp).E s4)) T.c T.N6 (N0 b) ⟨_,_,Á,Á,_,Á,a0 Ï Ï⟩⟩
   .simp at hc;apply(_,Á,_,Á,_,Á,_,Á,pk,_,_,.ref b.a,Á,Á,aa.of (s4 _ _ hk.a),fZ Å,aY (jQ ((nY hk.l xp).E s4)) T.c T.N6 (N0 b) ⟨_,_,Á,Á,(by show 2<=sizeLine;decide),λt ht=>?_⟩);let Ef:=s3.free ht;let s5:=s3.R (aG (o:=.tup [.int (sg:Nat),.int (((n:Nat):Int)-b.m.copies)]) ht);let OX:D≠t:=λz=>by rw[<-z,ck] at Ef;cases Ef
    apply(_,s5 _ _ ck,?_,ps++[t],?_,?_,?_,?_)
    .rw[ak];exact f7 Î
    .exact sr (J.R s5) hD
    .rw[aq,bH];rfl
    .symm
    .rw[et,abt];let e1:([(sg,n)]:cE).filterMap (p9 Ì)=[(sg,((n:Nat):Int)-b.m.copies)]:=by
      rw[BV];ext p9;symm
     rw[e1];ext bW;rw[bH];apply Paired.snoc (Paired.oq il λp kv e=>?_) ?_
     .rw[az (λz=>by simp_all)];exact s5 _ _ e
     .rw[az (eE OX)];exact aq
   .simp at hc;apply(ps,J.R s3,s3 _ _ ck,Nat.le_succ_of_le dY,?_);rw[et,abt];let e1:([(sg,n)]:cE).filterMap (p9 Ì)=[]:=by
     rw[BV];ext p9;grind
    rw[e1,jF];exact Paired.oq il λp kv e=>s3 _ _ e
  .rintro H2 ⟨ps,J,ck,dY,il⟩;rw[yN,i4] at il;rw[<-OW] at il;let U:=J _ _ nj;let hDd:D≠d:=λz=>by rw[z,nj] at hD;cases hD
   let s5:ai H (upd H2 d (.dK (bW gI O))):=sr (sl.R J) hd;apply(U,D,ps,_,Á,aa.of (by rw[az hDd];exact ck),Paired.oq il λp kv e=>bw.of (by rw[az (λz=>by rw[z,U] at e;cases e)];exact e),λp hp=>?_);let akW:((jU Ì y.m.flatten).M (·.1)).Nodup:=by
    rw[OW];exact at4 (HG _ O) Ee
   let em:=agl V.int Äy [] akW;rw[z5] at em;apply k _ p ⟨s5.R (aG hp),s5.free hp,?_⟩;rw[aq];exact b9 (λz=>some (HO.dK z)) em
end
def gL(x:dc):V:=.ref x.a
def oneAt(t:List (Nat×LN))(p:Nat×Nat):List (Nat×LN):=eT t p.1 ((cq t p.1).D []++[p.2])
def ja(ps:cE):List (Nat×LN):=ps.foldl oneAt []
def Eg(l:cE)(p:Nat×Nat):ja (l++[p])=oneAt (ja l) p:=by
 ext ja;simp
def places_len(l:cE):(ja l).L<=l.L:=by
 refine snoc_ind (P:=λl=>(ja l).L<=l.L) (bA _) Äl l;rw[Eg,j4];let:=Va (ja l) s.1 ((cq (ja l) s.1).D []++[s.2]);ext oneAt;grind
def W4(l:cE)(s:Nat):(cq (ja l) s).D []=(l.J λp=>decide (p.1=s)).M (·.2):=by
 refine snoc_ind (P:=λl=>(cq (ja l) s).D []=(l.J λp=>decide (p.1=s)).M (·.2)) Á Ϙ l;rw[Eg,Fs,bH,<-ih];ext oneAt;rw[Gu];by_cases h:s=x.1
 .rw[ah h,rK,ah (by simp[h]),h];rfl
 .rw[ag h,rK,ag (by simpa using λe=>h e.symm)];simp
def W5(l:cE){s:Nat}{x:LN}(h:cq (ja l) s=Α x):x.L<=l.L:=by
 let:=W4 l s;grind
def cont(p:Nat×dc):Nat×LN:=(p.1,p.2.ns)
structure Eh(H0 H:Hp)(d:Addr)(t:List (Nat×dc)):Prop where
 d:H d=Α (.dK (bW gL t))
 l:∀p∈t,H p.2.a=Α (.lst (iv (nv p.2.ns)))
 nd:(t.M λp=>p.2.a).Nodup
 fr:∀p∈t,H0 p.2.a=Β
theorem Bg(t:List (Nat×dc))(s:Nat):cq Âp s=(cq t s).M dc.ns:=by
 induction t with
 |nil=>rfl
 |cons p t j=>
  delta cq at j⊢;rw[a7,lZ,lZ,show(cont p).1=p.1 from rfl];cases decide (p.1=s) with
  |true=>rfl
  |false=>exact j
def W6(t:List (Nat×dc))(s:Nat)(x:dc):(eT t s x).M cont=eT Âp s x.ns:=by
 ext eT;rw[qO,qO,Bg,Fm];split
 .rw[cj,cj];apply iT λp _=>?_;show cont (if p.1=s then (p.1,x) else p)=if p.1=s then (p.1,x.ns) else cont p;split <;> rfl
 .rw[bH];rfl
def akX{t:List (Nat×dc)}{s:Nat}{x y:dc}(h:cq t s=Α x)(e:y.a=x.a)(j:(t.M (·.1)).Nodup):bW gL (eT t s y)=bW gL t:=by
 ext eT;rw[qO,h,ah (show(some x).isSome=true from rfl)];ext bW;rw[cj];apply iT λp q=>?_;show((Sum.inl (((if p.1=s then (p.1,y) else p).1:Nat):Int):Key),gL (if p.1=s then (p.1,y) else p).2)=(Sum.inl ((p.1:Nat):Int),gL p.2);by_cases c:p.1=s
 .rw[ah c];let:=AE j (s:=s) (v:=p.2) (by grind);rw[h] at this;cases this;ext gL;rw[e]
 .symm
def akY{t:List (Nat×dc)}{s:Nat}{x y:dc}(h:cq t s=Α x)(e:y.a=x.a)(j:(t.M (·.1)).Nodup):((eT t s y).M λp=>p.2.a)=t.M λp=>p.2.a:=by
 ext eT;rw[qO,h,ah (show(some x).isSome=true from rfl),cj];apply iT λp q=>?_;show(if p.1=s then (p.1,y) else p).2.a=p.2.a;by_cases c:p.1=s
 .rw[ah c];let:=AE j (s:=s) (v:=p.2) (by grind);symm
 .symm
def zj{β:Type}{t:List (Nat×β)}{s:Nat}{v:β}{p:Nat×β}(h:p∈eT t s v):p=(s,v)\/(p∈t/\p.1≠s):=by
 delta eT at h;grind
def akZ{t:List (Nat×dc)}(h:(t.M λp=>p.2.a).Nodup){p q:Nat×dc}(F:p∈t)(J:q∈t)(O:p.1≠q.1):p.2.a≠q.2.a:=by
 intro e;let(i,hi,U):=nr F;let(j,Y,W):=nr J;let M:i=j:=by
  let z:(t.M λp=>p.2.a)[i]' Å=(t.M λp=>p.2.a)[j]' Å:=by
   symm
  exact(aaW h).mp z
 symm
def Bi{α:Type}{l:List α}{i:Nat}{a:α}(h:l[i]? =Α a):l.drop i=a::l.drop (i+1):=by
 let(j,h2):=bo.mp h;rw[<-h2];simp
def ft(rows j:bf):cE:=(rows.zip j).flatMap λp=>p.1.zip p.2
inductive W7(vs:ay)(H:Hp)(Q:VK)(E':XK):Prop
 |mk (y z:cA) (_:vs=[.ref y.a,.ref z.a]) (_:aU H Çl) (_:aU H (e9 z)) (_:y.ls.L=z.ls.L) (_:(∀(i:Nat)(a b:dc),y.ls[i]? =Α a->z.ls[i]? =Α b->a.ns.L=b.ns.L)) (_:(ft y.m z.m).L<=100000) (_:∀H' p t,ai H H'->H p=Β->Eh H H' p t->t.M cont=ja Çj->Q Ĝ H')
section
variable{P:Pg}{w:Wd}{K:FR}{mg:MG}{base:Heap}{CK CL CS N CV CP:Addr}{C:Cs}
def HI:bC ["rows","stands","places","row","bits","sign","here"] ["rows","stands"] (ba MP):=cg
inductive PcI(y z:cA)(d:Addr)(H:Hp)(i:Nat)(σ:L2.St)(H':Hp):Prop
 |mk (v3 v4 v5 v6 t:_) (_:σ=[some Áe,some Åk,some Áf,v3,v4,v5,v6]) (_:ai H H') (_:Eh H H' d t) (_:(t.M (·.1)).Nodup) (_:t.M cont=ja (ft Ÿ Ày))
inductive PcJ(y z:cA)(d:Addr)(H:Hp)(a b:dc)(i:Nat)(j:Nat)(σ:L2.St)(H':Hp):Prop
 |mk (v5 v6 t:_) (_:σ=[some Áe,some Åk,some Áf,some (.ref a.a),some Çz,v5,v6]) (_:ai H H') (_:Eh H H' d t) (_:(t.M (·.1)).Nodup) (_:t.M cont=ja (ft Ÿ Ày++(a.ns.take j).zip Æd))
def ak2{f:Addr}{fd:FD}(F:br K "places_of" "places_of" MP f fd)(tZ:mg "zip"=Β):Ë 1 f fd ["rows","stands"] W7:=by
 refine F.ok HI Â;let(y,z,rfl,hy,hz,bZ,ak3,Ap,k):=h;refine⟨_,aB (cf 2 HI.nd C6)
  (aB (Į (Ux Ð tZ (ae Ø Ĺ)) (iA 3 4 HI.nd)
   (aA (Į (Ux Ð tZ (ae ö ŝ)) (iA 5 6 HI.nd)
    (aA (pI (Ü (ago å Ãd Ĩ ⟨rfl,rfl,rfl,rfl⟩) (ae Ϫ af)))))))
  Çr),?_⟩
 intro d hd;let uv:ai H (upd H d Ϥ):=aG hd;let rl:=ju hy;let ux:=ju hz;refine⟨_,Á,_,Á,y.a,z.a,_,_,Á,aa.of (uv _ _ rl),aa.of (uv _ _ ux),U8 (K:=K) (a:=y.a) (b:=z.a) (xs:=y.ls.M λx=>V.ref x.a) (ys:=z.ls.M λx=>V.ref x.a) (by rw[ak,ak];exact bZ)
  (PcI y z d H)
  ⟨none,none,none,none,[],rfl,uv,⟨aq,by simp,z6,by simp⟩,z6,rfl⟩ (λi σ H' _ h=>(by let(_,_,_,_,_,_,s1):=h;exact(aa.of (s1 _ _ rl),aa.of (s1 _ _ ux)))) ?_ ?_⟩
 .rintro i x1 x2 T1 σ H' hi hj ⟨v3,v4,v5,v6,t,rfl,s1,tb,hn,et⟩ hT1;let(a,ha,rfl):=gQ hi;let(b,hb,rfl):=gQ hj;let t7:=nc hy (bj ha);let iO:=nc hz Èt;let lu:=ak3 i a b ha hb;let W8:y.m[i]? =Α a.ns:=by ext cA.m;rw[bz,ha];rfl
  let W9:z.m[i]? =Α b.ns:=by ext cA.m;rw[bz,hb];rfl
  let eta:=take_snoc W8;let etb:=take_snoc W9;let s2:ai H' (upd H' T1 (.tup [.ref a.a,.ref b.a])):=aG hT1;let Xa:Eh H (upd H' T1 (.tup [.ref a.a,.ref b.a])) d t:=⟨s2 _ _ tb.d,λp J=>s2 _ _ (tb.l p J),tb.nd,tb.fr⟩;let bO:(y.m.take i).L=(z.m.take i).L:=by rw[iR,iR,ie,ie,bZ]
  apply(T1,_,Á,bw.of aq,Á,_,_,Á,_,_,Á,Á,?_);let s3:=s1.R s2;generalize upd H' T1 (.tup [.ref a.a,.ref b.a])=Hx at s3 Xa;let Vu:∀j,(ft Ÿ Ày++(a.ns.take j).zip Æd).L<=100000:=λj=>by
   let e1:ft y.m z.m=ft Ÿ Ày++(a.ns.zip b.ns++ft (y.m.drop (i+1)) (z.m.drop (i+1))):=by
    let ey:y.m=y.m.take i++(a.ns::y.m.drop (i+1)):=by
     rw[<-Bi W8];simp
    let ez:z.m=z.m.take i++(b.ns::z.m.drop (i+1)):=by
     rw[<-Bi W9];simp
    ext ft
    conv=>lhs;rw[ey,ez,abu bO,zU,wH,z7]
   grind
  refine⟨_,Á,_,Á,a.a,b.a,_,_,Á,aa.of (s3 _ _ t7),aa.of (s3 _ _ iO),U8 (K:=K) (a:=a.a) (b:=b.a) (xs:=iv (nv a.ns)) (ys:=iv (nv b.ns)) (by rw[dw,dw,gO,gO];exact lu)
   (PcJ y z d H a b i)
   ⟨v5,v6,t,rfl,s3,Xa,hn,by rw[et];simp⟩ (λj σ H' _ h=>(by let(_,_,_,_,s4):=h;exact(aa.of (s4 _ _ t7),aa.of (s4 _ _ iO)))) ?_ ?_⟩
  .rintro j x1 x2 T2 σ H2 AG DB ⟨v5',v6',t2,rfl,s4,Z,nG,Y⟩ vE;let(sg,lJ,rfl):=jr AG;let(bt,Xb,rfl):=jr DB;let e1:=take_snoc lJ;let e2:=take_snoc Xb;let oC:=(bo.mp lJ).1;let s5:ai H2 (upd H2 T2 (.tup [.int (sg:Nat),.int (bt:Nat)])):=aG vE;let s6:=s4.R s5;let M:Eh H (upd H2 T2 (.tup [.int (sg:Nat),.int (bt:Nat)])) d t2:=⟨s5 _ _ Z.d,λp J=>s5 _ _ (Z.l p J),Z.nd,Z.fr⟩;let Xc:ja (ft Ÿ Ày++(a.ns.take (j+1)).zip (b.ns.take (j+1)))=oneAt (ja (ft Ÿ Ày++(a.ns.take j).zip Æd)) (sg,bt):=by
    rw[e1,e2,abu Å,<-rJ,<-Eg];rfl
   let Bk:t2.L<=100000:=by
    let h1:(t2.M cont).L<=(ft Ÿ Ày++(a.ns.take j).zip Æd).L:=by
     rw[Y];exact places_len _
    grind
   apply(T2,_,Á,bw.of aq,Á,_,_,Á,_,_,Á,Á,?_);generalize upd H2 T2 (.tup [.int (sg:Nat),.int (bt:Nat)])=H3 at s6 M;apply(_,Á,d,Á,.inl ⟨_,.inl M.d⟩,_,Á,di _,λq O=>⟨_,Sum.inl ((sg:Nat):Int),(aG O) _ _ M.d,Á,(by rw[yN];exact f7 Î),λv hv=>?_,λhv=>?_⟩)
   .rw[AD] at hv;let(x,U,rfl):=u0.mp hv;let gY:=yO U;let oS:=M.l _ gY;let W:ai H3 (upd H3 q ã):=aG O;let hxq:=eQ oS O;let V3:x.a≠d:=λe=>by rw[e,M.d] at oS;cases oS
    let hxb:x.ns.L<=1000000:=by
     let h1:=Bg t2 sg;rw[U,Y] at h1;let h2:=W5 _ h1;grind
    apply(.inl ⟨Á,_,aa.of (W _ _ oS)⟩,_,Á,x.a,_,_,Á,Á,W _ _ oS,(by rw[dw,gO];exact f7 (by omega)),?_);apply(_,_,eT t2 sg ⟨x.a,x.ns++[bt]⟩,Á,sr (s6.R W) (M.fr _ gY),⟨?_,λp J=>?_,?_,λp J=>?_⟩,Gv nG,?_)
    .rw[az (eE V3),akX (y:=⟨x.a,x.ns++[bt]⟩) U rfl nG];exact W _ _ M.d
    .rcases zj J with rfl|⟨J,aL⟩
     .rw[aq];simp
     .rw[az (akZ M.nd J gY aL)];exact W _ _ (M.l p J)
    .rw[akY (y:=⟨x.a,x.ns++[bt]⟩) U rfl nG];exact M.nd
    .rcases zj J with rfl|⟨J,aL⟩
     .exact M.fr (sg,x) gY
     .exact M.fr p J
    .rw[W6,Y,Xc];ext oneAt;rw[<-Y,Bg,U];rfl
   .rw[AD] at hv;let U:cq t2 sg=Β:=by
     symm
    let W:ai H3 (upd H3 q ã):=aG O;let Xd:q≠d:=λe=>by rw[e,M.d] at O;cases O
    let GT:=s6.free O;let DK:(upd (upd H3 q ã) d (.dK (putK (bW gL t2) (Sum.inl ((sg:Nat):Int)) Åt))) q=Α ã:=by rw[az Xd];exact aq
    apply(.inl ⟨Á,_,aa.of DK⟩,_,Á,q,_,_,Á,Á,DK,(by show 0<sizeLine;exact f7 Å),?_);apply(_,_,eT t2 sg ⟨q,[bt]⟩,Á,sr (sr (s6.R W) hd) GT,⟨?_,λp J=>?_,?_,λp J=>?_⟩,Gv nG,?_)
    .rw[az (eE Xd),aq];exact b9 (λz=>some (HO.dK z)) (Do gL t2 sg ⟨q,[bt]⟩)
    .rcases zj J with rfl|⟨J,aL⟩
     .rw[aq];rfl
     .let dY:=M.l p J;rw[az (eQ dY O),az (λe=>by rw[e,M.d] at dY;cases dY)];exact W _ _ dY
    .ext eT;rw[qO,U];show((t2++[(sg,(⟨q,[bt]⟩:dc))]).M λp=>p.2.a).Nodup;rw[bH];apply K4 M.nd λm=>?_;let(p,J,e):=bG.mp m;let dY:=M.l p J;symm
    .rcases zj J with rfl|⟨J,aL⟩
     .omega
     .exact M.fr p J
    .rw[W6,Y,Xc];ext oneAt;rw[<-Y,Bg,U];rfl
  .rintro σ H2 ⟨v5,v6,t2,rfl,s4,Z,nG,Y⟩;apply(_,_,_,_,t2,Á,s4,Z,nG,?_);rw[Y,eta,etb,dw,gO,i4,JE (l:=b.ns) (i:=a.ns.L) Å];ext ft;rw[abu bO,wH];simp
 .rintro σ H' ⟨v3,v4,v5,v6,t,rfl,s1,tb,hn,et⟩;rw[ak,JE (by rw[ie];exact bA _),JE (by rw[ie];symm)] at et;exact(_,Á,k H' d t s1 hd tb et)
end
structure uz where
 a:Addr
 zs:LI
structure gZ where
 a:Addr
 dx:Addr
 sm:Addr
 gp:Addr
 sp:Addr
 sames:LN
 eX:List (Nat×uz)
 gy:LI
def gA(x:uz):V:=.ref x.a
def ig(p:Nat×uz):Nat×LI:=(p.1,p.2.zs)
def vY(p:gZ):List (Str×V):=[("sames",.ref p.sm),("gaps",.ref p.gp),("spares",.ref p.sp)]
def Xe(p:gZ):(vY p).Q ("sames":Str)=Α (.ref p.sm):=gK
def OY(p:gZ):(vY p).Q ("gaps":Str)=Α (.ref p.gp):=(fm É).R gK
def Xf(p:gZ):(vY p).Q ("spares":Str)=Α (.ref p.sp):=(fm É).R ((fm É).R gK)
structure qd(CP:Addr)(H:Hp)(p:gZ):Prop where
 a:H p.a=Α (.ins CP p.dx (vY p))
 sm:H p.sm=Α (.lst (iv (nv p.sames)))
 gp:H p.gp=Α (.dK (bW gA p.eX))
 gl:∀q∈p.eX,H q.2.a=Α (.lst (iv q.2.zs))
 sp:H p.sp=Α (.lst (iv p.gy))
def cQ(z:Int):Int:=if z>0 then z else 0
def HJ(G:Nat)(l:Int)(j:LN):LI:=(List.range G).M λg=>l-((sJ g j:Nat):Int)
def oU(G:Nat)(lacks:List (Nat×Int))(j:List (Nat×LN)):List (Nat×LI):=lacks.M λp=>(p.1,HJ G p.2 ((cq j p.1).D []))
def zk(G:Nat)(sp own:LI):LI:=(List.range G).M λg=>sp.D g 0-cQ (own.D g 0)
def sM(G:Nat)(sp:LI)(eX:List (Nat×LI)):LI:=eX.foldl (λsp p=>zk G sp p.2) sp
def ak6(G:Nat)(sp own:LI):(zk G sp own).L=G:=by ext zk;rw[ak,ik]
theorem Xg(G:Nat)(eX:List (Nat×LI)):∀(sp:LI),sp.L=G->(sM G sp eX).L=G:=by
 induction eX with
 |nil=>exact @λsp h=>h
 |cons p eX j=>
  intro sp h;exact j _ (ak6 G sp p.2)
def ak7(G:Nat)(sp:LI)(eX:List (Nat×LI))(p:Nat×LI):sM G sp (eX++[p])=zk G (sM G sp eX) p.2:=by
 ext sM;simp
def Xh(h:p∈oU G lacks HK):p.2.L=G:=by
 delta oU at h;let(q,_,rfl):=bG.mp h;ext HJ;simp
inductive Xi(CK CP:Addr)(vs:ay)(H:Hp)(Q:VK)(E':XK):Prop
 |mk (pk ps pl pp:Addr) (ks:List au) (sames:LN) (lacks:List (Nat×Int)) (t:List (Nat×dc)) (_:vs=[.ref pk,.ref ps,.ref pl,.ref pp]) (_:Ń ks) (_:H ps=Α Àb) (_:D5 Ì sames) (_:sames.L<=10) (_:H pl=Α í) (_:(lacks.M (·.1)).Nodup) (_:lacks.L<=1000) (_:H pp=Α (.dK (bW gL t))) (_:(∀p∈t,H p.2.a=Α (.lst (iv (nv p.2.ns))))) (_:(∀p∈t,p.2.ns.L<=1000)) (_:(∀p∈lacks,(cq t p.1).isSome=true)) (_:pp≠pl) (_:∀H' p,ai H H'->qd CP H' p->H p.a=Β->H p.gp=Β->p.a≠p.gp->p.sm=ps->p.sames=sames->p.eX.M ig=oU (2^sames.L) lacks Âp->p.gy=sM (2^sames.L) ((List.range (2^sames.L)).M (sL Ì sames)) Æa->Q ϭ H')
section
variable{P:Pg}{w:Wd}{K:FR}{mg:MG}{base:Heap}{CK CL CS N CV CP:Addr}{C:Cs}
def HL:bootBuiltins "list"=Α (.type "list"):=by decide+kernel
def HM:bootBuiltins "max"=Α (.builtin "max"):=by decide+kernel
def qe:bC ["kinds","sames","lacks","places","groups","gaps","sign","lack","group","spares","own"] ["kinds","sames","lacks","places"] (ba MQ):=cg
inductive PnI(pk ps pl pp gl d:Addr)(B:Hp)(G:Nat)(lacks:List (Nat×Int))(t:List (Nat×dc))(i:Nat)(σ:L2.St)(H':Hp):Prop
 |mk (v6 v7 tt:_) (_:σ=[some Ær,some (.ref ps),some (.ref pl),some (.ref pp),some (.ref gl),some Áf,v6,v7,none,none,none]) (_:ai B H') (_:H' d=Α İ) (_:(∀q∈tt,H' q.2.a=Α (.lst (iv q.2.zs)))) (_:(∀q∈tt,B q.2.a=Β)) (_:tt.M ig=oU G (lacks.take i) Âp)
def ak9(F:br K "plan_of" "plan_of" MQ f fd)(TP:jt K CP ["sames","gaps","spares"])(tL:mg "len"=Β)(zl:mg "list"=Β)(tR:mg "range"=Β)(tM:mg "max"=Β)(dP:Ā "Plan" CP ["sames","gaps","spares"]) (dO:Ç 1 "places_outside" ["group","places"] (OP K)) (dC:Ç 1 "copies_in" ["group","kinds","sames"] (OQ CK)):Ë 3 f fd ["kinds","sames","lacks","places"] (Xi CK CP):=by
 refine F.ok qe Â;let(pk,ps,pl,pp,ks,sames,lacks,t,rfl,hk,lK,fq,ala,dY,Bl,Xj,zi,Bk,Ei,iM,aL,k):=h;let hu:A.units+3+1<cLine:=qy Ä hr.un;refine⟨_,aB (cf 4 qe.nd (vx (agx Á) Ð zl HL (ae (vx agw Ð tR boot_range (ae (d9 FT bc Ă) af)) af)))
  (aB (cf 5 qe.nd C6)
  (aB (Ur (Į (Uv å) (iA 6 7 qe.nd)
   (aA (F5 Èj Ãd Ϫ (eA (own:=[("group",8)]) (te:=bQ (gE λi j=>.int (i-j)) Æj (g8 (OP K) [] E0 (a9 (ax 8) (a9 (Ui Ŀ (ax 6)) dq)))) rfl qe.nd (dX ę) Ê
    (Âc) Ò (λ_ _ _ _ _=>d9 rV Èe (bx dO (ae (pv 8) (ae (Uj hu ö Ϫ Ö) af))))) rfl))))
  (aB (cf 9 qe.nd (eA (own:=[("group",8)]) (te:=g8 (OQ CK) [] E0 (a9 (ax 8) (a9 Ų (a9 ž dq)))) rfl qe.nd (dX ę) Ê
    (Âc) Ò (λ_ _ _ _ _=>bx dC (ae (pv 8) (ae Ø Ĺ)))))
  (aB (Ur (Į (afl Ãd) (cZ 10 qe.nd)
   (aA (cf 9 qe.nd (eA (own:=[("group",8)]) (te:=bQ (gE λi j=>.int (i-j)) (bQ Ũ (ax 9) (ax 8)) (rY (λxs H Q=>∃i j,xs=[.int i,.int j]/\Q (.int (if j>i then j else i)) H) (a9 Är (a9 (bQ Ũ (ax 10) (ax 8)) dq)))) rfl qe.nd (dX ę) Ê
    (Âc) Ò (λ_ _ _ _ _=>d9 rV (cJ c9 (pv 9) (pv 8) Ö) (c8 (Kr rfl) Ð tM HM (ae bc (ae (cJ c9 (pv 10) (pv 8) Ö) af)))))))))
  (aA (aV (pV dP hr (ae á (ae Ãd (ae (pv 9) af)))))))))),?_⟩
 let hG:2^sames.L<=1024:=ym Ñ ala;let hG0:0<2^sames.L:=Nat.pow_pos Ñ;apply(_,Á,ps,_,Á,.inl (aa.of lK),_,_,Á,Á,⟨by simp_all,by grind,by decide⟩,2^sames.L,?_,λr Bm=>⟨r,2^sames.L,Á,aq,by lia,λgl n0=>?_⟩)
 .simp
 generalize hGG:2^sames.L=G at hG hG0 n0⊢;let O:ai H (upd (upd H r (.tG 0 ((G:Nat):Int))) gl (.lst ((List.range G).M λi=>V.int ((i:Nat):Int)))):=(aG Bm).R (aG n0);let Ej:(upd (upd H r (.tG 0 ((G:Nat):Int))) gl (.lst ((List.range G).M λi=>V.int ((i:Nat):Int)))) gl=Α (.lst (iv Ár)):=by
  rw[aq];simp
 generalize upd (upd H r (.tG 0 ((G:Nat):Int))) gl (.lst ((List.range G).M λi=>V.int ((i:Nat):Int)))=H0 at O Ej;intro d hd;let nj:d≠pl:=λe=>by rw[e,O _ _ dY] at hd;cases hd
 let alc:(Åx) pl=Α í:=by rw[az (eE nj)];exact O _ _ dY
 apply(pl,_,alc,True.intro,λod=>?_);let Xk:(Âo) d=Β:=by rw[az nj];exact hd
 let HN:(Âo) pl=Α ύ:=aq;let Ek:∀b o,H0 b=Α o->b≠pl->(Âo) b=Α o:=λb o e J=>by rw[az J];exact e
 let hB0:∀b,(Âo) b=Β->H0 b=Β:=λb e=>by
  by_cases J:b=pl
  .symm
  .rw[az J] at e;exact e
 let HP:ai Âo (upd Åx pl ύ):=λb o e=>by
  by_cases J:b=pl
  .subst J;rw[aq] at e⊢;exact e
  .rw[az J] at e⊢;rw[az (eQ e hd)];exact e
 let Xl:(upd Åx pl ύ) d=Α (.dK (bW gA [])):=by rw[az nj];exact aq
 generalize rT:upd Åx pl ύ=S1 at HP Xl;generalize hB:upd H0 pl ύ=B at Xk HN Ek hB0 HP;let bpp:=Ek _ _ (O _ _ zi) aL;let btl:=λp hp=>Ek _ _ (O _ _ (Bk p hp)) (λe=>by grind);let Xm:=Ek _ _ Ej (λe=>by rw[e,O _ _ dY] at Ej;cases Ej);refine⟨_,Á,pl,od,_,Á,HP _ _ HN,agg (d:=pl) (o:=od) (kvs:=bW V.int lacks) (PnI pk ps pl pp gl d B G lacks t)
  ⟨none,none,[],rfl,HP,Xl,by simp,by simp,rfl⟩ (λi σ H' _ h=>(by let(_,_,_,_,Z):=h;exact Z _ _ HN)) ?_ ?_⟩
 .rintro i kk vv Tt σ H' hi ⟨v6,v7,tt,rfl,Z,vX,uj,hqf,rn⟩ hT;let(sg,l,Y,rfl,rfl):=Ll V.int hi;let dm:=(bo.mp Y).1;let et:=take_snoc Y;let ic:=bj Y;let(x,W):=JB.mp (iM _ ic);let W:=W;let gY:=yO W;let s2:ai H' (Ϩ (.tup [kV (Sum.inl ((sg:Nat):Int)),V.int l])):=aG hT;let s3:=Z.R s2;apply(Tt,_,Á,bw.of aq,Á,_,_,Á,_,_,Á,Á,?_);generalize hHx:Ϩ (.tup [kV (Sum.inl ((sg:Nat):Int)),V.int l])=Hx at s2 s3⊢;apply(_,Á,gl,Á,⟨_,aa.of (s3 _ _ Xm)⟩,λD hD=>fV (K:=K) (a:=gl) (xs:=iv Ár) (fe Hx D λg=>l-((sJ g x.ns:Nat):Int)) Áa (λj H2 _ f=>aa.of (f.1 _ _ (s3 _ _ Xm))) (λj y H2 hj f=>?_) Æw)
  .let(z,hz,rfl):=jr hj;let si:=(bo.mp hz).1;rw[ik] at si;cases yY hz;let s4:=s3.R f.1;let uA:=lj.k (k:=(Sum.inl ((sg:Nat):Int):Key)) (s4 _ _ bpp);rw[AD,W] at uA;exact(Á,eJ ⟨_,Á,_,Á,_,Á,_,Á,pp,_,Á,uA,j,x.a,x.ns,Á,aa.of (s4 _ _ (btl _ gY)),Ei _ gY,λH3 s5=>⟨_,_,Á,Á,(fe.step hD Î f s5 Á)⟩⟩)
  .let df:=f.2;rw[dw,gO,ik] at df;let s4:=s2.R f.1;let hDB:=s3.free hD;let alh:=s4 _ _ vX;let htn:cq tt sg=Β:=by
    cases e:cq tt sg with
    |none=>rfl
    |some u=>
     let h2:=yO e;let h3:sg∈(tt.M ig).M (·.1):=bG.mpr ⟨ig (sg,u),bG.mpr ⟨_,h2,rfl⟩,rfl⟩;rw[rn] at h3;delta oU at h3;rw[cj] at h3;let(q,M,e2):=bG.mp h3;let e2:=e2;exfalso;let Ee:=Bl;let e3:lacks.M (·.1)=(lacks.take i).M (·.1)++sg::(lacks.drop (i+1)).M (·.1):=by
      conv=>lhs;rw[<-RS i lacks,Bi Y,bH,a7]
     grind
   let bZ:tt.L<=1000:=by
    let:(tt.M ig).L=(oU G (lacks.take i) Âp).L:=by rw[rn]
    delta oU at this;grind
   apply(_,Á,_,Á,d,_,Á,xf.k (k:=Sum.inl ((sg:Nat):Int)) alh (by rw[yN];exact f7 Î),?_);let Xn:putK (bW gA tt) (Sum.inl ((sg:Nat):Int)) ϔ=bW gA (tt++[(sg,⟨D,(List.range G).M λg=>l-((sJ g x.ns:Nat):Int)⟩)]):=by
    let:=Do gA tt sg ⟨D,(List.range G).M λg=>l-((sJ g x.ns:Nat):Int)⟩;delta eT at this;rw[qO,htn] at this;exact this
   apply(_,_,tt++[(sg,⟨D,(List.range G).M λg=>l-((sJ g x.ns:Nat):Int)⟩)],Á,sr (Z.R s4) Xk,?_,λq M=>?_,λq M=>?_,?_)
   .rw[aq];symm
   .rcases fu.mp M with M|M
    .let h2:=s4 _ _ (uj q M);rw[az (λe=>by simp_all)];omega
    .let:q=(sg,⟨D,(List.range G).M λg=>l-((sJ g x.ns:Nat):Int)⟩):=by simpa using M
     subst this;rw[az (λe=>by simp_all)];omega
   .grind
   .rw[et,bH,rn];ext oU;rw[bH];congr 1;show[ig _]=[(sg,HJ G l ((cq Âp sg).D []))];rw[Bg,W];rfl
 .rintro σ H' ⟨v6,v7,tt,rfl,Z,vX,uj,hqf,rn⟩;rw[yN,i4] at rn;apply(Z _ _ HN,?_);let s5:ai H0 Éd:=λb o e=>by
   by_cases J:b=pl
   .subst J;rw[aq];rw[O _ _ dY] at e;omega
   .rw[az J];exact Z _ _ (Ek _ _ e J)
  let Xo:(Éd) d=Α İ:=by rw[az nj];exact vX
  let Xp:∀q∈tt,(Éd) q.2.a=Α (.lst (iv q.2.zs)):=λq M=>by
   let h2:=uj q M;rw[az (λe=>by grind)];omega
  generalize upd H' pl í=H5 at s5 Xo Xp;let s6:=O.R s5;let hdH:=O.free hd;let OZ:=s5 _ _ Ej;apply(_,Á,gl,Á,⟨_,aa.of OZ⟩,λD hD=>fV (K:=K) (a:=gl) (xs:=iv Ár) (fe H5 D λg=>sL Ì sames g) Áa (λj H2 _ f=>aa.of (f.1 _ _ OZ)) (λj y H2 hj f=>?_) Æw)
  .let(z,hz,rfl):=jr hj;let si:=(bo.mp hz).1;rw[ik] at si;cases yY hz;let s7:=s6.R f.1;exact(Á,eJ ⟨_,Á,_,Á,_,Á,j,pk,ps,ks,sames,Á,hk.E s7,s7 _ _ lK,fq,λH3 s8=>(fe.step hD Î f s8 Á)⟩)
  .let mY:=f.2;let s7:=f.1;rw[dw,gO,ik] at mY;let O0:=s7 _ _ Xo;let alk:=s7 _ _ OZ;let Xq:=λq M=>s7 _ _ (Xp q M);let s8:=s6.R s7;let hDH:=s6.free hD;apply(d,_,O0,True.intro,λvZ=>?_);let b1:(Éc) d=Α Åv:=aq;let b2:∀b o,H2 b=Α o->b≠d->(Éc) b=Α o:=λb o e J=>by rw[az J];exact e
   let b3:∀b o,H2 b=Α Èa->(Éc) b=Α Èa:=λb o e=>b2 b _ e (λz=>by simp_all);generalize upd H2 d Åv=B2 at b1 b2 b3;let alm:((List.range G).M λg=>sL Ì sames g).L=G:=by rw[ak,ik]
   refine⟨_,Á,d,vZ,_,Á,b1,agh (d:=d) (o:=vZ) (kvs:=bW gA tt) (λi σ H'=>∃zR sp,σ=[some Ær,some (.ref ps),some (.ref pl),some (.ref pp),some (.ref gl),some Áf,v6,v7,none,some (.ref sp),zR]/\ai B2 H'/\H' sp=Α (.lst (iv (sM G ((List.range G).M λg=>sL Ì sames g) ((tt.M ig).take i)))))
    ⟨none,D,rfl,ai.refl B2,b3 _ _ mY⟩ (λi σ H' _ ⟨_,_,_,U,_⟩=>U _ _ b1) ?_ ?_⟩
   .rintro i kk vv σ H' hi ⟨zR,sp,rfl,U,Bn⟩;let(sg,x,Y,rfl,rfl):=Ll gA hi;let ic:=bj Y;let oS:=U _ _ (b3 _ _ (Xq _ ic));let HQ:(tt.M ig)[i]? =Α (sg,x.zs):=by rw[bz,Y];rfl
    let et:=take_snoc HQ;let hxG:x.zs.L=G:=Xh (p:=(sg,x.zs)) (by rw[<-rn];exact bj HQ);let hcG:=Xg G ((tt.M ig).take i) _ alm;let Xr:=U _ _ (b3 _ _ alk);rw[et,ak7];generalize sM G ((List.range G).M λg=>sL Ì sames g) ((tt.M ig).take i)=cur at Bn hcG;apply(_,Á,gl,Á,⟨_,aa.of Xr⟩,λD2 ck=>fV (K:=K) (a:=gl) (xs:=iv Ár) (fe H' D2 λg=>cur.D g 0-cQ (x.zs.D g 0)) Çk (λj H3 _ f=>aa.of (f.1 _ _ Xr)) (λj y H3 hj f3=>?_) (λH3 f3=>?_))
    .let(z,hz,rfl):=jr hj;let si:=(bo.mp hz).1;rw[ik] at si;cases yY hz;exact(Á,eJ ⟨_,Á,_,Á,sp,_,_,.int (cur.D j 0),Á,Á,aa.of (f3.1 _ _ Bn),fZ (zd Å),_,Á,_,Á,x.a,_,_,.int (x.zs.D j 0),Á,Á,aa.of (f3.1 _ _ oS),fZ (zd Å),_,_,Á,_,_,Á,Á,(fe.step ck Î f3 (ai.refl H3) Á)⟩)
    .let e3:=f3.2;rw[dw,gO,ik] at e3;exact(_,D2,Á,U.R f3.1,e3)
   .rintro σ H' ⟨zR,sp,rfl,U,Bn⟩;rw[yN,<-ak (f:=ig),i4] at Bn;apply(U _ _ b1,?_);let ma:ai H2 (upd H' d İ):=λb o e=>by
     by_cases J:b=d
     .subst J;rw[aq];symm
     .rw[az J];exact U _ _ (b2 _ _ e J)
    let Xs:(upd H' d İ) sp=Α (.lst (iv (sM G ((List.range G).M λg=>sL Ì sames g) (tt.M ig)))):=by
     rw[az (λe=>by rw[e,U _ _ b1] at Bn;cases Bn)];omega
    let md:=s8.R ma;generalize upd H' d İ=H7 at ma Xs md;apply(_,Á,_,Á,_,Á,xE Á λx dx H8 W gU au1 e8 fA=>?_);apply k H8 ⟨x,dx,ps,d,sp,sames,tt,_⟩ (md.R fA) ⟨e8,(md.R fA) _ _ lK,(ma.R fA) _ _ O0,λq M=>(ma.R fA) _ _ (Xq q M),fA _ _ Xs⟩ (md.free W) hdH ?_ Á Á Å (by rw[hGG];rfl);intro e;let e:x=d:=e;rw[e,ma _ _ O0] at W;symm
end
def wa(g same:Nat):Bool:=Builtin.bitAnd (g:Int) (same:Int)!=0
def uB(same:Nat):Int:=if ((same:Nat):Int)!=0 then-1 else 0
def lN(b:Bool):Int:=if b=true then 1 else 0
def jb(before:LI)(bits same:Nat):LI:=(List.range before.L).M λg=>before.D g 0+uB same+lN (iu g bits)
def jV(before gy:LI)(bits same:Nat):LI:=(List.range gy.L).M λg=>gy.D g 0+cQ (before.D g 0)-cQ ((jb before bits same).D g 0)-lN (wa g same)
def wb(x y:Addr)(H H':Hp):Prop:=∀b o,H b=Α o->b≠x->b≠y->H' b=Α o
def wb.refl:wb x y H H:=λ_ _ e _ _=>e
def ai.x{x y:Addr}{H H':Hp}(s:ai H H'):wb x y H H':=λb o e _ _=>s b o e
def gZ.own(p:gZ):LA:=p.sm::p.sp::p.eX.M λq=>q.2.a
def uD(H:Hp)(p j:gZ):Prop:=∀a∈j.own,a∈p.own\/H a=Β
inductive Xu(CP:Addr)(vs:ay)(H:Hp)(Q:VK)(E':XK):Prop
 |mk (p:gZ) (sg bits same:Nat) (x:uz) (_:vs=[.ref p.a,.int (sg:Nat),.int (bits:Nat),.int (same:Nat)]) (_:qd CP H p) (_:p.a≠p.gp) (_:cq p.eX sg=Α x) (_:x.zs.L=p.gy.L) (_:0<p.gy.L) (_:p.gy.L<=2000) (_:p.eX.L<=2000) (_:(p.eX.M (·.1)).Nodup) (_:((ϰ same).any (λz=>decide (z<0))=true->∀H',ai H H'->Q (.bl false) H')) (_:((ϰ same).any (λz=>decide (z<0))=false->∀H' p',qd CP H' p'->p'.a=p.a->p'.gp=p.gp->p'.sm=p.sm->p'.sames=p.sames->p'.eX.M ig=eT Æa sg (Ė same)->p'.gy=jV x.zs p.gy bits same->wb p.a p.gp H H'->uD H p p'->Q (.bl true) H'))
theorem O1(t:List (Nat×uz))(s:Nat):cq (t.M ig) s=(cq t s).M uz.zs:=by
 induction t with
 |nil=>rfl
 |cons p t j=>
  delta cq at j⊢;rw[a7,lZ,lZ,show(ig p).1=p.1 from rfl];cases decide (p.1=s) with
  |true=>rfl
  |false=>exact j
def alo(t:List (Nat×uz))(s:Nat)(x:uz):(eT t s x).M ig=eT (t.M ig) s x.zs:=by
 ext eT;rw[qO,qO,O1,Fm];split
 .rw[cj,cj];apply iT λp _=>?_;show ig (if p.1=s then (p.1,x) else p)=if p.1=s then (p.1,x.zs) else ig p;split <;> rfl
 .rw[bH];rfl
section
variable{P:Pg}{w:Wd}{K:FR}{mg:MG}{base:Heap}{CK CL CS N CV CP:Addr}{C:Cs}
def O2:bootBuiltins "min"=Α (.builtin "min"):=by decide+kernel
abbrev Xv:ay->Hp->VK->Prop:=λxs H Q=>∃i j,xs=[.int i,.int j]/\Q (.int (if j>i then j else i)) H
def xM:bC ["plan","sign","bits","same","before","needs","gaps","group","gap","spares","spare"] ["plan","sign","bits","same"] (ba MV):=cg
def alp(F:br K "hang" "hang" MV f fd)(TP:jt K CP ["sames","gaps","spares"])(tE:mg "enumerate"=Β)(tM:mg "max"=Β)(tN:mg "min"=Β):Ë 1 f fd ["plan","sign","bits","same"] (Xu CP):=by
 refine F.ok xM Â;let(p,sg,bits,same,x,rfl,J,HR,hx,oS,WW,pP,n0,Ee,k1,k2):=h;refine⟨_,aB (cf 4 xM.nd (Uj Èj ĺ á (λ_ _=>Á)))
  (aB (cf 5 xM.nd (tI (Ai ö Än) Âg bc))
  (aB (cf 6 xM.nd (eA (own:=[("group",7),("gap",8)]) (g:=g2 K 7 8)
   (te:=bQ (gE λi j=>.int (i+j)) (bQ (gE λi j=>.int (i+j)) (ax 8) (ax 5)) (yt (Ea K (bQ (gE λi j=>.int ś) ř (FP (rU λi=>.int Ås) Æj))) Äq Är)) rfl xM.nd
   (jO Ð tE ŝ) Ê
   (λ_ _ _ _ _=>iA 7 8 xM.nd) Ò
   (λ_ _ _ _ _=>d9 pK (d9 pK (pv 8) Ãd) (tI (Ai (d9 yy å (iU SM Èe)) Än) bc bc))))
  (aB (tQ (i:=9) (own:=[("group",7),("spare",10)]) (g:=g2 K 7 10)
   (te:=bQ (gE λi j=>.int (i-j)) (bQ (gE λi j=>.int (i-j)) (bQ (gE λi j=>.int (i+j)) (ax 10) (rY Xv (a9 Är (a9 (bQ Ũ Ãt Æj) dq)))) (rY Xv (a9 Är (a9 (bQ Ũ (ax 6) Æj) dq)))) (yt (Ea K (bQ (gE λi j=>.int ś) Æj Ŀ)) Äq Är)) rfl xM.nd rfl rfl Ð
   (Éi) Ê
   (λ_ _ _ _ _=>iA 7 10 xM.nd) Ò
   (λ_ _ _ _ _=>d9 rV (d9 rV (d9 pK (pv 10) (c8 (Kr rfl) Ð tM HM (ae bc (ae (cJ c9 ę Èe Ö) af)))) (c8 (Kr rfl) Ð tM HM (ae bc (ae (cJ c9 Ϫ Èe Ö) af)))) (tI (Ai (d9 yy Èe ö) Än) bc bc)))
  (aB (dj (cw yz (c8 (Tw rfl) Ð tN O2 (ae (pv 9) af)) bc (bU _)) ϫ dQ)
  (aB (F5 Èj ÿ á Ϫ rfl)
  (aB (fk Ø (pv 9) rfl)
  ϫ)))))),?_⟩
 let gY:=yO hx;let lF:=J.gl _ gY;let uA:=lj.k (k:=(Sum.inl ((sg:Nat):Int):Key)) J.gp;rw[AD,hx] at uA;apply(_,Á,aY J.a TP.1 (TP.2 _ Ä) (OY p) ⟨_,Á,p.gp,_,Á,uA,?_⟩);dsimp only;apply U7 (U6 (((same:Nat):Int)!=0) (.int (uB same)) (λK q=>⟨_,Á,_,Á,q⟩) (λe K q=>Ę) ϸ ?_)
 .delta uB at q;symm
 .delta uB at q;rw[ag Å] at q;exact q
 refine⟨_,Á,x.a,_,Á,aa.of lF,λD hD=>mh (K:=K) (a:=x.a) (xs:=iv x.zs) (fe H D λg=>x.zs.D g 0+uB same+lN (iu g bits)) Áa (λi H' _ f=>aa.of (f.1 _ _ lF)) Âb þ⟩
 .let(z,hz,rfl):=ua hi;let dm:=(bo.mp hz).1;let W:ai H' (Ϩ (.tup [.int (i:Nat),.int z])):=aG hT;refine à;apply(_,Á,_,Á,_,_,Á,Á,Gr (iu i bits) (.int (lN (iu i bits))) (λK q=>⟨_,Á,_,Á,_,Á,_,_,Á,Á,_,Á,q⟩) ϸ ϸ ⟨_,_,Á,Á,?_⟩)
  .rw[e] at q;exact q
  .rw[e] at q;exact q
  .apply fe.step hD Î f W ?_;symm
 .let xN:=f.2;let W:=f.1;rw[dw] at xN;let xN:H' D=Α (.lst (iv (Ė same))):=xN;let au2:(Ė same).L=x.zs.L:=by ext jb;rw[ak,ik]
  let alq:=W _ _ lF;let alr:=W _ _ J.a;let Xw:=W _ _ J.sp;apply(_,Á,aY alr TP.1 (TP.2 _ Ä) (Xf p) ⟨p.sp,_,Á,aa.of Xw,λO ck=>mh (K:=K) (a:=p.sp) (xs:=iv p.gy) (fe H' O λg=>p.gy.D g 0+cQ (x.zs.D g 0)-cQ ((Ė same).D g 0)-lN (wa g same)) Çk (λi H2 _ f=>aa.of (f.1 _ _ Xw)) (λi v Tt H2 hi f2 hT=>?_) Åw⟩)
  .let(z,hz,rfl):=ua hi;let dm:=(bo.mp hz).1;let s2:ai H2 (Ū (.tup [.int (i:Nat),.int z])):=aG hT;let U:=f2.1.R s2;refine à;refine⟨_,Á,_,Á,_,Á,x.a,_,_,.int (x.zs.D i 0),Á,Á,aa.of (U _ _ alq),fZ (zd (by show i<x.zs.L;symm)),_,_,Á,_,_,Á,Á,
    _,rfl,_,rfl,D,_,_,.int ((Ė same).D i 0),rfl,rfl,aa.of (U _ _ xN),fZ (zd Å),_,_,rfl,_,_,rfl,rfl,
    Gr (wa i same) (.int (lN (wa i same))) (λK q=>⟨_,rfl,_,rfl,_,_,rfl,rfl,_,rfl,q⟩) ϸ ϸ ⟨_,_,rfl,rfl,?_⟩⟩
   .rw[e] at q;exact q
   .rw[e] at q;exact q
   .apply fe.step ck Î f2 s2 ?_;rw[getD_at hz];rfl
  .let Y:=f2.2;let s2:=f2.1;rw[dw] at Y;let Y:H2 O=Α (.lst (iv (ϰ same))):=Y;let als:(ϰ same).L=p.gy.L:=by ext jV;rw[ak,ik]
   let U:=W.R s2;generalize jV x.zs p.gy bits same=M at Y als k1 k2;refine⟨_,Á,O,M,Á,aa.of Y,by simp_all,λm hm lX=>⟨_,_,rfl,rfl,_,rfl,a0 Ï Ï⟩⟩
   .simp at hc;exact k1 (tu.mpr ⟨m,hm,eP hc⟩) H2 U
   .simp at hc;let alu:M.any (λz=>decide (z<0))=false:=by
     grind
    let k3:=k2 alu;let Xx:=U _ _ J.a;let alv:=U _ _ J.gp;let au3:=s2 _ _ xN;let HS:=hD;let HU:=W.free ck;let au4:D≠p.gp:=λe=>by rw[e,J.gp] at HS;cases HS
    let au5:D≠p.a:=λe=>by rw[e,J.a] at HS;cases HS
    let au6:O≠p.gp:=λe=>by rw[e,J.gp] at HU;cases HU
    let au7:O≠p.a:=λe=>by rw[e,J.a] at HU;cases HU
    apply(_,Á,_,Á,aY Xx TP.1 (TP.2 _ Ä) (OY p) ⟨_,Á,p.gp,_,Á,xf.k (k:=Sum.inl ((sg:Nat):Int)) alv (by rw[yN];exact f7 Î),?_⟩);let Xn:putK (bW gA p.eX) (Sum.inl ((sg:Nat):Int)) ϔ=bW gA Áb:=Do gA p.eX sg ⟨D,Ė same⟩;rw[Xn];apply(_,Á,_,Á,p.a,CP,p.dx,vY p,Á,(by rw[az HR];exact Xx),TP.1,TP.2 _ Ä,(by show 3<1000;decide),?_);let ef:iE ("spares":Str) (.ref O) (vY p)=vY ⟨p.a,p.dx,p.sm,p.gp,O,p.sames,eT p.eX sg ⟨D,Ė same⟩,M⟩:=by
     rfl
    rw[ef];let hx:∀b o,H2 b=Α o->b≠p.a->b≠p.gp->(upd (upd H2 p.gp (.dK (bW gA Áb))) p.a (.ins CP p.dx (vY ⟨p.a,p.dx,p.sm,p.gp,O,p.sames,eT p.eX sg ⟨D,Ė same⟩,M⟩))) b=Α o:=λb o e h1 h2=>by
     rw[az h1,az h2];omega
    let oS:∀b o,H2 b=Α Èa->(upd (upd H2 p.gp (.dK (bW gA Áb))) p.a (.ins CP p.dx (vY ⟨p.a,p.dx,p.sm,p.gp,O,p.sames,eT p.eX sg ⟨D,Ė same⟩,M⟩))) b=Α Èa:=λb o e=>hx b _ e (λz=>by simp_all) (λz=>by simp_all);apply k3 _ ⟨p.a,p.dx,p.sm,p.gp,O,p.sames,eT p.eX sg ⟨D,Ė same⟩,M⟩ ⟨aq,oS _ _ (U _ _ J.sm),?_,λq hq=>?_,oS _ _ Y⟩ Á Á Á Á (alo _ _ _) Á (λb o e h1 h2=>hx b o (U _ _ e) h1 h2) (λa Z=>?_)
    .rw[az (eE HR),aq]
    .rcases zj hq with rfl|⟨hq,_⟩
     .symm
     .exact oS _ _ (U _ _ (J.gl q hq))
    .delta gZ.own at Z⊢;rcases a8.mp Z with rfl|Z
     .simp
     .rcases a8.mp Z with rfl|Z
      .symm
      .let(q,hq,rfl):=bG.mp Z;rcases zj hq with rfl|⟨hq,_⟩
       .symm
       .grind
end
abbrev iD:=List (Nat×LI)×LI
def oW(l:LI):Bool:=!l.any λz=>decide (z<0)
def sN(st:iD)(sg bits same:Nat)(row:LI):iD:=(eT st.1 sg (jb row bits same),jV row st.2 bits same)
def wc(sames:LN)(st:iD)(sg bits:Nat)(row:LI):LN->Option (Nat×iD)
 |[]=>none
 |b::r=>if oW (jV row st.2 bits (2^b))=true then some (sames.D b 0,sN st sg bits (2^b) row) else wc sames st sg bits row r
def qf(n bits:Nat):LN:=(List.range n).J (zh bits)
def oX(sames:LN)(st:iD)(sg bits:Nat):Option (Nat×iD):=match cq st.1 sg with
 |none=>some (sg,st)
 |some row=>if oW (jV row st.2 bits 0)=true then some (sg,sN st sg bits 0 row) else wc sames st sg bits row (qf sames.L bits)
def gZ.st(p:gZ):iD:=(p.eX.M ig,p.gy)
structure n8(CP:Addr)(H:Hp)(p:gZ):Prop where
 ok:qd CP H p
 ne:p.a≠p.gp
 row:∀q∈p.eX,q.2.zs.L=p.gy.L
 pos:0<p.gy.L
 c6:p.gy.L<=2000
 El:p.eX.L<=2000
 nd:(p.eX.M (·.1)).Nodup
 HV:p.sames.L<=10
def qd.same(h:qd CP H p)(s:ai H H'):qd CP H' p:=⟨s _ _ h.a,s _ _ h.sm,s _ _ h.gp,λq j=>s _ _ (h.gl q j),s _ _ h.sp⟩
def n8.same(h:n8 CP H p)(s:ai H H'):n8 CP H' p:=⟨h.ok.E s,h.ne,h.row,h.pos,h.c6,h.El,h.nd,h.HV⟩
def O3(l:List (Nat×uz)):(l.M ig).M (·.1)=l.M (·.1):=by rw[cj];rfl
def Xy{CP:Addr}{H H':Hp}{p j:gZ}{sg bits same:Nat}{x:uz}(g:n8 CP H p)(J:cq p.eX sg=Α x)(ok:qd CP H' j)(U:j.a=p.a)(W:j.gp=p.gp)(es:j.sames=p.sames)(F:j.eX.M ig=eT Æa sg (Ė same)) (O:j.gy=jV x.zs p.gy bits same):n8 CP H' j:=by
 let z:j.gy.L=p.gy.L:=by rw[O];ext jV;rw[ak,ik]
 let hk:j.eX.M (·.1)=p.eX.M (·.1):=by
  rw[<-O3,F,Vb,O1,J,O3];rfl
 apply(ok,by rw[U,W];exact g.ne,λq Z=>?_,by rw[z];exact g.pos,by rw[z];exact g.c6,?_,by rw[hk];exact g.nd,by rw[es];exact g.HV)
 .let Y:ig q∈eT Æa sg (Ė same):=by rw[<-F];exact bG.mpr ⟨q,Z,Á⟩
  rcases zj Y with e|⟨h2,_⟩
  .let:q.2.zs=jb x.zs bits same:=b9 Prod.snd e;rw[this,z,<-g.row _ (yO J)];ext jb;simp
  .let(M,j9,e):=bG.mp h2;let:q.2.zs=M.2.zs:=(b9 Prod.snd e).symm;rw[this,z];exact g.row M j9
 .let:=b9 List.length hk;rw[ak,ak] at this;rw[this];exact g.El
inductive O4(CP:Addr)(vs:ay)(H:Hp)(Q:VK)(E':XK):Prop
 |mk (p:gZ) (sg bits:Nat) (r:Nat×iD) (_:vs=[.ref p.a,.int (sg:Nat),.int (bits:Nat)]) (_:n8 CP H p) (_:oX p.sames p.st sg bits=Α r) (_:∀H' p',n8 CP H' p'->p'.a=p.a->p'.gp=p.gp->p'.sames=p.sames->p'.st=r.2->wb p.a p.gp H H'->uD H p p'->Q (.int ((r.1:Nat):Int)) H')
section
variable{P:Pg}{w:Wd}{K:FR}{mg:MG}{base:Heap}{CK CL CS N CV CP:Addr}{C:Cs}
def Em:bC ["plan","sign","bits","places","place","tried"] ["plan","sign","bits"] (ba MU):=cg
def alw{f:Addr}{fd:FD}(F:br K "flag_told" "flag_told" MU f fd)(TP:jt K CP ["sames","gaps","spares"])(tL:mg "len"=Β)(tR:mg "range"=Β)(dH:Ç 1 "hang" ["plan","sign","bits","same"] (Xu CP)):Ë 2 f fd ["plan","sign","bits"] (O4 CP):=by
 refine F.ok Em Â;let(p,sg,bits,r,rfl,J,O,k):=h;refine⟨_,aB (dj (PW.pt (pw_or (pH (aeO Èj á ĺ) (by with_unfolding_all rfl)) (pw_or1 (jh (bx dH (ae Ø (ae á (ae å (ae bc af))))))))) Âv dQ)
  (aB (tQ (i:=3) (own:=[("place",4)]) (tt:=Ea K (bQ (gE λi j=>.int ś) (bQ (rI (λ_ j=>0<=j) λi j=>.int (i/2^j.toNat)) ř Ãt) Äq)) (te:=ax 4) rfl Em.nd rfl rfl Ð (FJ Ð tR (ae (c8 gv Ð tL PySem.boot_len Ãi) af)) Ê
   (λ_ _ _ _ _=>cZ 4 Em.nd) (λ_ _ _ _ _=>oE (Ai (d9 yy (d9 Km å ę) bc) Än)) (λ_ _ _ _ _=>pv 4))
  (aB (cf 5 Em.nd bc)
  (aB (SE jI (qB (jh (bx dH (ae Ø (ae á (ae å (ae (d9 FT bc (cJ c9 ö Ãd Ö)) af))))))) (aA (SD (i:=5) Em.nd rfl Çs bc SK)))
  (aA (aV (cJ c9 ÿ (cJ c9 ö Ãd Ö) Ö)))))),?_⟩
 let uA:=lj.k (k:=(Sum.inl ((sg:Nat):Int):Key)) J.ok.gp;rw[AD] at uA;apply(_,Á,_,Á,aY J.ok.a TP.1 (TP.2 _ Ä) (OY p) ⟨p.gp,_,Á,uA,_,Á,?_⟩);let eg:=O1 p.eX sg;cases e:cq p.eX sg with
 |none=>
  rw[e] at eg;let ef:oX p.sames p.st sg bits=Α (sg,p.st):=by
   ext oX gZ.st;symm
  rw[ef] at O;cases O;exact a0 (λ_=>lp ⟨_,Á,k H p J Á Á Á Á wb.refl λa ha=>.inl ha⟩) (λhc=>absurd Á hc)
 |some x=>
  rw[e] at eg;let gY:=yO e;let En:=J.row _ gY;let ef:oX p.sames p.st sg bits=if oW (ϰ 0)=true then some (sg,sN p.st sg bits 0 x.zs) else wc p.sames p.st sg bits x.zs (qf p.sames.L bits):=by
   ext oX gZ.st;symm
  rw[ef] at O;refine a0 (λhc=>absurd hc Ä) Èz;apply(_,Á,_,Á,_,Á,p,sg,bits,0,x,Á,J.ok,J.ne,e,En,J.pos,J.c6,J.El,J.nd,λh H1 s1=>⟨_,Á,oG ?_⟩,λh H1 p1 Z U Ep em1 W O5 O6 HW O7=>⟨_,Á,lp ?_⟩)
  .rw[ag (by ext oW;rw[h];decide)] at O;let mQ:=J.E s1;let Ap:=J.HV;apply(_,Á,aY mQ.ok.a TP.1 (TP.2 _ Ä) (Xe p) ⟨p.sm,_,Á,.inl (aa.of mQ.ok.sm),(p.sames.L:Int),by simp,by simp_all,by lia,λD Y=>?_⟩);rw[BU];refine CZ (lo:=0) (n:=p.sames.L) (ng H1 D (zh bits)) (ng.zero Y) Ây þ
   .rw[R3];refine⟨Á,_,Á,_,Á,_,_,Á,Á,RZ i,_,_,Á,Á,_,Á,a0 Ï Ï⟩
    .exact(_,Á,f.yes Y Î Ĥ hc)
    .exact f.no Ĥ hc
   .let xN:H' D=Α (.lst (iv (nv (qf p.sames.L bits)))):=f.2;let s2:=s1.R f.1;let bO:∀b∈qf p.sames.L bits,b<p.sames.L:=λb hb=>by
     delta qf at hb;symm
    let hDa:D≠p.a:=λz=>by rw[z,mQ.ok.a] at Y;cases Y
    let hDg:D≠p.gp:=λz=>by rw[z,mQ.ok.gp] at Y;cases Y
    generalize qf p.sames.L bits=pl at xN bO O;refine⟨λm σ H2=>∃j:Nat,σ=[some ϭ,some (.int (sg:Nat)),some (.int (bits:Nat)),some ϔ,none,some (.int (j:Nat))]/\m=pl.L-j/\ai H H2/\H2 D=Α (.lst (iv (nv pl)))/\wc p.sames p.st sg bits x.zs (pl.drop j)=Α r,
     ⟨_,0,rfl,rfl,s2,xN,O⟩,?_⟩
    rintro m σ H2 ⟨j,rfl,rfl,s3,ck,M⟩;let oC:j<pl.L:=by
     cases Nat.lt_or_ge j pl.L with
     |inl h=>exact h
     |inr h=>rw[abv h] at M;cases M
    obtain⟨b,hb⟩:∃b,pl[j]? =Α b:=⟨_,cI oC⟩;let iO:=bO b Èt;rw[Bi hb] at M;let qz:=J.E s3;let HX:(iv (nv pl))[j]? =Α (.int ((b:Nat):Int)):=by
     symm
    apply(_,Á,_,Á,_,Á,_,Á,_,Á,D,_,_,.int ((b:Nat):Int),Á,Á,aa.of ck,fZ HX,_,_,Á,Á,⟨RZ b,by lia,by decide⟩,p,sg,bits,2^b,x,?_,qz.ok,J.ne,e,En,J.pos,J.c6,J.El,J.nd,λh H3 s4=>⟨_,Á,lp ?_⟩,λh H3 p1 Z U Ep em1 W O5 O6 HW O7=>⟨_,Á,oG ?_⟩)
    .simp
    .delta wc at M;rw[ag (by ext oW;rw[show p.st.2=p.gy from rfl,h];decide)] at M;apply(_,λσ' H' q=>⟨_,?_,q⟩,_,Á,_,_,Á,Á,j+1,Á,Á,s3.R s4,s4 _ _ ck,M);grind
    .delta wc at M;rw[ah (by ext oW;rw[show p.st.2=p.gy from rfl,h];rfl)] at M;cases M;let sO:=HW _ _ ck hDa hDg;apply(_,Á,aY (by rw[<-U];exact Z.a) TP.1 (TP.2 _ Ä) (Xe p1) ⟨_,Á,_,Á,D,_,_,.int ((b:Nat):Int),Á,Á,aa.of sO,fZ HX,p1.sm,_,_,.int ((p.sames.D b 0:Nat):Int),Á,Á,aa.of Z.sm,?_,?_⟩)
     .rw[W];exact fZ (HB iO)
     .apply k H3 p1 (Xy J e Z U Ep W O5 O6) U Ep W ?_ (λb o e1 h1 h2=>HW b o (s3 _ _ e1) h1 h2) (λa ha=>(O7 a ha).imp id λz=>s3.free z);ext gZ.st sN;symm
  .rw[ah (by ext oW;rw[h];rfl)] at O;cases O;apply(_,Á,k H1 p1 (Xy J e Z U Ep W O5 O6) U Ep W ?_ HW O7);ext gZ.st sN;symm
end
def oY(sames:LN):iD->cE->Option (LN×iD)
 |st,[]=>some ([],st)
 |st,p::r=>match oX sames st p.1 p.2 with
  |none=>none
  |some x=>match oY sames x.2 r with
   |none=>none
   |some y=>some (x.1::y.1,y.2)
def uD.refl:uD H p p:=λ_ h=>.inl h
def Apart(D:Addr)(p:gZ):Prop:=D≠p.a/\D≠p.gp/\D∉p.own
def alA(h:qd CP H p)(j:a∈p.own):∃l,H a=Α (.lst l):=by
 delta gZ.own at j;rcases a8.mp j with rfl|j
 .exact(_,h.sm)
 .rcases a8.mp j with rfl|j
  .exact(_,h.sp)
  .let(q,z,rfl):=bG.mp j;exact(_,h.gl q z)
def apart_new(h:qd CP H p)(j:H D=Β):Apart D p:=by
 apply(λe=>?_,λe=>?_,λe=>?_)
 .rw[e,h.a] at j;cases j
 .rw[e,h.gp] at j;cases j
 .let(l,q):=alA h e;symm
def O8(h:Apart D p)(j:p'.a=p.a)(q:p'.gp=p.gp)(O:uD H p p')(z:H D≠none):Apart D p':=⟨by rw[j];exact h.1,by rw[q];exact h.2.1,λe=>(O D e).elim h.2.2 z⟩
def qd.upd(h:qd CP H p)(j:Apart D p):qd CP Èk p:=by
 let n:∀a∈p.own,a≠D:=λa F e=>j.2.2 Å;apply(?_,?_,?_,λq z=>?_,?_)
 .rw[az (eE j.1)];exact h.a
 .rw[az (n _ (by ext gZ.own;simp))];exact h.sm
 .rw[az (eE j.2.1)];exact h.gp
 .rw[az (n _ (by ext gZ.own;exact aK _ (aK _ (bG.mpr ⟨q,z,Á⟩))))];exact h.gl q z
 .rw[az (n _ (by ext gZ.own;simp))];exact h.sp
def n8.upd(h:n8 CP H p)(j:Apart D p):n8 CP Èk p:=⟨h.ok.upd j,h.ne,h.row,h.pos,h.c6,h.El,h.nd,h.HV⟩
inductive O9(CP:Addr)(vs:ay)(H:Hp)(Q:VK)(E':XK):Prop
 |mk (p:gZ) (x z:dc) (r:LN×iD) (_:vs=[.ref p.a,.ref x.a,.ref z.a]) (_:n8 CP H p) (_:aU H (lsN x)) (_:aU H (lsN z)) (_:x.ns.L=z.ns.L) (_:x.ns.L<=1000) (_:oY p.sames p.st (x.ns.zip z.ns)=Α r) (_:∀H' p' q,n8 CP H' p'->p'.a=p.a->p'.gp=p.gp->p'.sames=p.sames->p'.st=r.2->wb p.a p.gp H H'->uD H p p'->H q=Β->H' q=Α (.lst (iv (nv r.1)))->Apart q p'->Q Åt H')
section
variable{P:Pg}{w:Wd}{K:FR}{mg:MG}{base:Heap}{CK CL CS N CV CP:Addr}{C:Cs}
def Pa:bC ["plan","row","stands","place","sign"] ["plan","row","stands"] (ba MT):=cg
inductive HtI(CP D:Addr)(p:gZ)(H:Hp)(x z:dc)(r:LN×iD)(i:Nat)(H2:Hp):Prop
 |mk (p2:gZ) (fs:LN) (r2:LN×iD) (_:wb p.a p.gp H H2) (_:n8 CP H2 p2) (_:p2.a=p.a) (_:p2.gp=p.gp) (_:p2.sames=p.sames) (_:uD H p p2) (_:Apart D p2) (_:H2 D=Α (.lst (iv (nv fs)))) (_:fs.L=i) (_:oY p.sames p2.st ((x.ns.zip z.ns).drop i)=Α r2) (_:fs++r2.1=r.1) (_:r2.2=r.2)
def alC(F:br K "hoist_told" "hoist_told" MT f fd)(tE:mg "enumerate"=Β)(dF:Ç 2 "flag_told" ["plan","sign","bits"] (O4 CP)):Ë 3 f fd ["plan","row","stands"] (O9 CP):=by
 refine F.ok Pa Â;let(p,x,z,r,rfl,M,hx,hz,hl,jM,hh,k):=h;let q:=DY hx;let W:=DY hz;refine⟨_,aA (aV (eA (own:=[("place",3),("sign",4)]) (g:=g2 K 3 4) (te:=g8 (O4 CP) [] E0 (a9 Ų (a9 Ãt (a9 (bQ Ũ ř Ŀ) dq)))) Á Pa.nd
   (jO Ð tE Ĺ) Ê
   (λ_ _ _ _ _=>iA 3 4 Pa.nd) Ò
   (λ_ _ _ _ _=>bx dF (ae Ø (ae ę (ae (cJ c9 å ö Ö) af)))))),?_⟩
 let alD:x.a≠p.a:=λe=>by rw[e,M.ok.a] at q;cases q
 let alE:x.a≠p.gp:=λe=>by rw[e,M.ok.gp] at q;cases q
 let alF:z.a≠p.a:=λe=>by rw[e,M.ok.a] at W;cases W
 let alG:z.a≠p.gp:=λe=>by rw[e,M.ok.gp] at W;cases W
 apply(_,Á,x.a,_,Á,aa.of q,λD Y=>?_);let HY:=eQ q Y;let hzD:=eQ W Y;let Er:=apart_new M.ok Y;refine mh (K:=K) (a:=x.a) (xs:=iv (nv x.ns)) (HtI CP D p H x z r)
  ⟨p,[],r,ai.x (aG Y),M.upd Er,rfl,rfl,rfl,uD.refl,Er,aq,rfl,hh,rfl,rfl⟩ (λi H2 _ h=>(by let(p2,fs,r2,U):=h;exact aa.of (U _ _ q alD alE))) ?_ ?_
 .rintro i v Tt H2 hi ⟨p2,fs,r2,U,g2,ea,eg,es,ow,Z,ck,fY,j,xO,HZ⟩ hT;let(sg,lJ,rfl):=jr hi;let dm:=(bo.mp lJ).1;obtain⟨bt,Xb⟩:∃bt,z.ns[i]? =Α bt:=⟨_,cI Å⟩;let il:(x.ns.zip z.ns)[i]? =Α (sg,bt):=by
   symm
  rw[Bi il] at j;let O:ai H2 (Ū (.tup [.int (i:Nat),.int (sg:Nat)])):=aG hT;let HX:(iv (nv z.ns))[i]? =Α (.int ((bt:Nat):Int)):=by
   symm
  delta oY at j;cases e1:oX p.sames p2.st sg bt with
  |none=>symm
  |some y1=>
   rw[e1] at j;dsimp only at j;cases e2:oY p.sames y1.2 ((x.ns.zip z.ns).drop (i+1)) with
   |none=>symm
   |some y2=>
    rw[e2] at j;let j:=aQ j;subst j;refine à;generalize hHx:Ū (.tup [.int (i:Nat),.int (sg:Nat)])=Hx at O;let g3:=g2.E O;apply(_,Á,_,Á,_,Á,_,Á,z.a,_,_,.int ((bt:Nat):Int),Á,Á,aa.of (O _ _ (U _ _ W alF alG)),fZ HX,p2,sg,bt,y1,by simp_all,g3,by simp_all,λH3 p3 g4 Bq Br Pb Xz Bs Bt=>?_);let Es:=O _ _ ck;let sO:=Bs _ _ Es Z.1 Z.2.1;let Et:=O8 Z Bq Br Bt Å;apply(_,sO,by rw[dw,gO];exact f7 Î,p3,fs++[y1.1],y2,λb o e h1 h2=>?_,g4.upd Et,Bq.R ea,Br.R eg,Pb.R es,λa ha=>?_,Et,?_,by simp_all,by simp_all,by simp_all,HZ)
    .rw[az (eQ e Y)];exact Bs _ _ (O _ _ (U b o e h1 h2)) Å Å
    .rcases Bt a ha with h|h
     .exact ow a h
     .apply .inr ?_;cases e:H a with
      |none=>rfl
      |some o=>
       exfalso;let J:=O.free h;by_cases h1:a=p.a
       .rw[h1,<-ea,g2.ok.a] at J;cases J
       .by_cases h2:a=p.gp
        .rw[h2,<-eg,g2.ok.gp] at J;cases J
        .rw[U a o e h1 h2] at J;cases J
    .rw[aq];simp
 .rintro H2 ⟨p2,fs,r2,U,g2,ea,eg,es,ow,Z,ck,fY,j,xO,HZ⟩;rw[dw,gO] at fY j;rw[abv Å] at j;cases j;grind
end
def bh(ms:aI):LN:=(List.range ms.L).J λi=>decide ((ms.D i eW).role=1)
def gB(ms:aI)(rows:bf):bf:=rows.M (rk ms ı)
def Eu(ms:aI)(rows:bf):List (Nat×LI):=oU (2^(bh ms).L) (jU ms rows.flatten) (ja ü)
def qg(ms:aI)(rows:bf):iD:=(Eu ms rows,sM (2^(bh ms).L) ((List.range (2^(bh ms).L)).M (sL ms ı)) (Eu ms rows))
def n9(sames:LN):iD->List cE->Option (bf×iD)
 |st,[]=>some ([],st)
 |st,p::r=>match oY sames st p with
  |none=>none
  |some x=>match n9 sames x.2 r with
   |none=>none
   |some y=>some (x.1::y.1,y.2)
def oa(rows j:bf):List cE:=(rows.zip j).M λp=>p.1.zip p.2
def o4(ms:aI)(rows:bf):Option (Option bf):=
 if jU ms rows.flatten=[] then some (some rows) else if (qg ms rows).2.any (λz=>decide (z<0))=true then some none else (n9 ı Çc Äc).M λx=>some x.1
structure xP(ms:aI):Prop where
 c6:(bh ms).L<=10
 pos:∀s∈bh ms,1<=mr ms s
inductive Ia(CK:Addr)(vs:ay)(H:Hp)(Q:VK)(E':XK):Prop
 |mk (pk:Addr) (ks:List au) (y:cA) (r:Option bf) (_:vs=[.ref pk,.ref y.a]) (_:Ń ks) (_:xP Ì) (_:OV H y ks.L) (_:(y.m.flatten).L<=1000) (_:o4 Ì y.m=Α r) (_:(∀hs,r=Α hs->∀H' z,ai H H'->cA.m z=hs->aU H' (e9 z)->i9 H (e9 z)->Q Åk H')) (_:(r=Β->∀H',ai H H'->Q .aO H'))
def alH(l:cE)(s:Nat):(cq (ja l) s).isSome=(l.M (·.1)).Y s:=by
 refine snoc_ind (P:=λl=>(cq (ja l) s).isSome=(l.M (·.1)).Y s) Á Ϙ l;rw[Eg,bH];ext oneAt;rw[Gu];by_cases h:s=x.1
 .rw[ah h];simp[h]
 .rw[ag h,ih];simp[h]
def alI(l:cE):((ja l).M (·.1)).Nodup:=by
 refine snoc_ind (P:=λl=>((ja l).M (·.1)).Nodup) z6 Äl l;rw[Eg];exact Gv ih
theorem XA:∀(rows j:bf),rows.L=j.L->(∀(i:Nat)(a b:LN),rows[i]? =Α a->j[i]? =Α b->a.L=b.L)->(ft rows j).M (·.1)=rows.flatten:=by
 intro rows;induction rows with
 |nil=>
  intro j q _;cases j with
  |nil=>rfl
  |cons _ _=>cases q
 |cons a rows z=>
  intro j q h2;cases j with
  |nil=>cases q
  |cons b j=>
   let z:=z j (À q) λi x y F J=>h2 (i+1) x y F J;delta ft at z⊢;rw[zU,z7,bH,z,R4];congr 1;let:=h2 0 a b rfl rfl;exact List.map_fst_zip (by show a.L<=b.L;symm)
def XD(ms:aI)(rows:bf):rows.L=(gB ms rows).L:=by ext gB;rw[ak]
def Pc(ms:aI)(rows:bf):∀(i:Nat)(a b:LN),rows[i]? =Α a->ŏ[i]? =Α b->a.L=b.L:=λi a b j h2=>by
 delta gB at h2;rw[bz,j] at h2;cases h2;ext rk;simp
def alJ(G:Nat)(lacks:List (Nat×Int))(j:List (Nat×LN)):(oU G lacks j).M (·.1)=lacks.M (·.1):=by
 ext oU;simp
def Pd(ms:aI)(F:LN):((jU ms F).M (·.1)).Nodup:=at4 (HG ms (gX F)) (HF F)
def alK(ms:aI)(F:LN):(jU ms F).L<=F.L:=by
 let j:=(HG ms (gX F)).length_le;let h2:=OU F;rw[ak,ak] at j;ext jU;lia
def XE(h:p∈jU ms flat):p.1∈flat:=by
 let j:p.1∈(jU ms flat).M (·.1):=bG.mpr ⟨p,h,rfl⟩;let h2:=(HG ms (gX flat)).subset j;let(q,z,e):=bG.mp h2;rw[<-e];exact WZ z
def alL(h:xP ms):D5 ms ı:=⟨by let:=h.c6;lia,λs hs=>by
 delta bh at hs;simpa using (iz.mp hs).1,h.pos⟩
section
variable{P:Pg}{w:Wd}{K:FR}{mg:MG}{base:Heap}{CK CL CS N CV CP:Addr}{C:Cs}
def qh:bC ["kinds","rows","lacks","row","sames","number","kind","stands","plan"] ["kinds","rows"] (ba ML):=cg
inductive DsI(CP D3:Addr)(p:gZ)(H6:Hp)(y z:cA)(r0:bf×iD)(i:Nat)(H7:Hp):Prop
 |mk (p2:gZ) (zs:List dc) (r2:bf×iD) (_:wb p.a p.gp H6 H7) (_:n8 CP H7 p2) (_:p2.a=p.a) (_:p2.gp=p.gp) (_:p2.sames=p.sames) (_:uD H6 p p2) (_:Apart D3 p2) (_:H7 D3=Α (.lst (zs.M λx=>V.ref x.a))) (_:zs.L=i) (_:(∀x∈zs,H7 x.a=Α ό/\Apart x.a p2/\H6 x.a=Β/\x.a≠D3)) (_:n9 p.sames p2.st ((oa y.m z.m).drop i)=Α r2) (_:zs.M dc.ns++r2.1=r0.1)
def alN(F:br K "display_told" "display_told" ML f fd)(T:ud K CK)(TP:jt K CP ["sames","gaps","spares"])(zl:mg "list"=Β)(tE:mg "enumerate"=Β)(tN:mg "min"=Β)(cS:Cn mg "SAME" Ŝ)(dL:Ç 1 "copies_lacking" ["kinds","rows"] (W1 CK)) (dA:Ç 2 "sames_along" ["kinds","sames","row"] (OO CK)) (dP:Ç 1 "places_of" ["rows","stands"] W7)(dO:Ç 3 "plan_of" ["kinds","sames","lacks","places"] (Xi CK CP)) (dH:Ç 3 "hoist_told" ["plan","row","stands"] (O9 CP)):Ë 4 f fd ["kinds","rows"] (Ia CK):=by
 refine F.ok qh Â;let(pk,ks,y,r,rfl,hk,Ib,W,fY,O,k1,k2):=h;refine⟨_,aB (cf 2 qh.nd (bx dL (ae Ø Ĺ)))
  (aB (dj (cw (ags hr.units) å C6 (bU _)) (aA (aV (eA (own:=[("row",3)]) (te:=rY (λxs H Q=>∃p ys,xs=[.ref p]/\(ä p ys\/bw K H p ys)/\∀l,H l=Β->Q Âa (ϑ Âw)) Âk) rfl qh.nd Åd Ê
   (λ_ _ _ _ _=>cZ 3 qh.nd) Ò (λ_ _ _ _ _=>vx Th Ð zl HL ĳ)))) dQ)
  (aB (cf 4 qh.nd (eA (own:=[("number",5),("kind",6)]) (g:=g2 K 5 6) (tt:=mX (bQ pL (fj K (ax 6) "role") Äq)) (te:=ax 5) rfl qh.nd
   (Ás) Ê
   (λ_ _ _ _ _=>iA 5 6 qh.nd)
   (λ_ _ _ _ _=>oE (cw iB (aX Ϫ rfl) Çm (bU _))) (λ_ _ _ _ _=>pv 5)))
  (aB (cf 7 qh.nd (eA (own:=[("row",3)]) (te:=g8 (OO CK) [] E0 (a9 Ų (a9 Ãt Âk))) rfl qh.nd Åd Ê
   (λ_ _ _ _ _=>cZ 3 qh.nd) Ò (λ_ _ _ _ _=>bx dA (ae Ø (ae ę ĳ)))))
  (aB (cf 8 qh.nd (bx dO (ae Ø (ae ę (ae å (ae (bx dP (ae á Âu)) af))))))
  (aB (dj (cw yz (c8 (Tw rfl) Ð tN O2 (ae (aX (pv 8) rfl) af)) bc (bU _)) ϋ dQ)
  (aA (aV (eA (own:=[("number",5),("row",3)]) (g:=g2 K 5 3) (te:=g8 (O9 CP) [] E0 (a9 (ax 8) (a9 Ŀ (a9 (bQ Ũ Æj (ax 5)) dq)))) rfl qh.nd
   (jO Ð tE Ĺ) Ê
   (λ_ _ _ _ _=>iA 5 3 qh.nd) Ò
   (λ_ _ _ _ _=>bx dH (ae (pv 8) (ae ö (ae (cJ c9 Èe Ãd Ö) af)))))))))))),?_⟩
 let rl:=ju W.l;let XF:=W.c6;apply(_,Á,_,Á,pk,ks,y,Á,hk,W,λH1 pl nL=>?_);let s1:=nL.1;let dY:=nL.2.2;let alO:=O;delta o4 at O;let Bl:=Pd Ì y.m.flatten;let Xj:=alK Ì y.m.flatten;let rg:∀p∈jU Ì y.m.flatten,p.1∈y.m.flatten:=λp hp=>XE hp;let hG:Eu Ì y.m=oU (2^(bh Ì).L) Äy (ja (ft y.m (gB Ì y.m))):=rfl;generalize jU Ì y.m.flatten=lacks at dY O Bl Xj rg hG;refine⟨_,Á,λe he=>⟨pl,e,_,Á,Á,(Èv) _ _ dY,aq,_,Á,a0 Ï Ï⟩⟩
 .let hc:lacks=[]:=by
   cases lacks with
   |nil=>rfl
   |cons a b=>exact absurd hc (by ext bW;simp)
  rw[ah hc] at O;let s2:ai H (upd H1 e Ϥ):=s1.R Èv;generalize upd H1 e Ϥ=H2 at s2;apply(_,Á,y.a,Á,⟨_,aa.of (s2 _ _ rl)⟩,λD hD=>fV (K:=K) (a:=y.a) (xs:=y.ls.M λx=>V.ref x.a) (jR H2 D λi=>y.m.D i []) Ď (λi H' _ f=>aa.of (f.E _ _ (s2 _ _ rl))) (λi v H' hi f=>?_) þ)
  .let(x,J,rfl):=gQ hi;let Z:=bj J;let dm:=(bo.mp J).1;exact(Á,eJ ⟨_,Á,x.a,_,Á,.inl (aa.of (f.E _ _ (s2 _ _ (nc W.l Z)))),λl hl=>(jR.step hD Î f (aG hl) hl (by rw[aq,D1 J]))⟩)
  .let(z,rfl,s3,em,l1,fr):=jR.end hD f;apply k1 _ (aQ O).symm H' z ğ ?_ l1 (i9.back fr s2);rw[em,ak];let:=vU (l:=y.m) (g:=λx=>x) (d:=[]);rw[ie,abw] at this;exact this
 .let hc:¬lacks=[]:=λz=>hc (by rw[z];rfl);rw[ag hc] at O;let s2:ai H (upd H1 e Ϥ):=s1.R Èv;let XG:=(aG (o:=.dK []) he) _ _ dY;generalize upd H1 e Ϥ=H2 at s2 XG;let uh:=hk.E s2;let hkf:=hk.c6;refine⟨_,Á,pk,_,Á,aa.of uh.a,λD hD=>mh (K:=K) (a:=pk) (xs:=ks.M λk=>V.ref k.a) (ng H2 D λi=>decide (((ks.M au.m).D i eW).role=1)) (ng.zero hD) (λi H' _ f=>aa.of (f.1 _ _ uh.a)) Âb Àx⟩
  .let(b,hb,rfl):=gQ hi;let dm:=(bo.mp hb).1;let s3:ai H' (Ϩ (.tup [.int (i:Nat),.ref b.a])):=aG hT;refine è;refine⟨_,Á,aY (jQ ((nY uh.l Èt).E (f.1.R s3))) T.c T.xB (xA b) Ļ⟩;rw[show V.int 1=V.int ((1:Nat):Int) from rfl,nF];refine a0 Ï Ï
   .exact(_,Á,f.yes hD Î s3 (by rw[getD_map hb];exact hc))
   .exact f.no s3 (by rw[getD_map hb];exact hc)
  .let fq:H3 D=Α (.lst (iv (nv (bh Ì)))):=by
    let:=f.2;rw[ak] at this;ext bh;rw[ak];exact this
   let s3:=s2.R f.1;let alQ:=f.1 _ _ XG;let Ic:=hk.E s3;let XH:=alL Ib;apply(_,Á,y.a,Á,⟨_,aa.of (s3 _ _ rl)⟩,λD2 ck=>fV (K:=K) (a:=y.a) (xs:=y.ls.M λx=>V.ref x.a) (jR H3 D2 λi=>rk Ì (bh Ì) Èc) Ác (λi H' _ f=>aa.of (f.E _ _ (s3 _ _ rl))) (λi v H' hi f2=>?_) (λH4 f2=>?_))
   .let(x,J,rfl):=gQ hi;let Z:=bj J;let dm:=(bo.mp J).1;exact(Á,eJ ⟨_,Á,_,Á,_,Á,pk,D,x.a,ks,bh Ì,x.ns,Á,Ic.E f2.E,f2.E _ _ fq,XH,f2.E _ _ (s3 _ _ (nc W.l Z)),W.short x Z,λH5 q n5=>(jR.step ck Î f2 n5.1 n5.2.1 (by rw[D1 J];exact n5.2.2))⟩)
   .let(z,rfl,s4,em,l4,fr4):=jR.end ck f2;let og:z.m=gB Ì y.m:=by
     rw[em,ak];let:=vU (l:=y.m) (g:=rk Ì (bh Ì)) (d:=[]);rw[ie] at this;exact this
    let si:y.ls.L=z.ls.L:=by rw[<-ie,<-ie,og];exact XD _ _
    let XI:∀(i:Nat)(a b:dc),y.ls[i]? =Α a->z.ls[i]? =Α b->a.ns.L=b.ns.L:=λi a b U h2=>Pc Ì y.m i a.ns b.ns (by ext cA.m;rw[bz,U];rfl) (by rw[<-og];ext cA.m;rw[bz,h2];rfl);let OF:=XA y.m z.m (by rw[ie,ie];exact si) (by rw[og];exact Pc _ _);let ava:(ft y.m z.m).L<=1000:=by
     let:=b9 List.length OF;rw[ak] at this;lia
    let s5:=s3.R s4;let alR:=s4 _ _ fq;let XJ:=s4 _ _ alQ;apply(_,Á,_,Á,_,Á,_,Á,_,Á,y,z,Á,aU.E W.l s5,l4,si,XI,by lia,λH5 pp t s6 zi tb et=>?_);let s7:=s5.R s6;let Ei:∀p∈t,p.2.ns.L<=1000:=λp hp=>by
     let(i,hi,ei):=nr hp;let U:cont p∈ja Çj:=by rw[<-et];exact bG.mpr ⟨p,hp,Á⟩
     let h2:=AE (alI Çj) (s:=p.1) (v:=p.2.ns) U;let:=W5 _ h2;lia
    let iM:∀p∈lacks,(cq t p.1).isSome=true:=λp hp=>by
     let U:=Bg t p.1;rw[et] at U;let h2:=alH Çj p.1;rw[U,OF,Fm] at h2;rw[h2];simpa using rg p hp
    let alS:pp≠pl:=λe=>by rw[e,XJ] at zi;cases zi
    apply(pk,D,pl,pp,ks,bh Ì,lacks,t,Á,hk.E s7,s6 _ _ alR,XH,Ib.c6,s6 _ _ XJ,Bl,by lia,tb.d,tb.l,Ei,iM,alS,λY p s8 ok AR HR aL avb lK Ie mY=>?_);let s9:=s7.R s8;let XM:p.st=qg Ì y.m:=by
     ext gZ.st qg;rw[mY,Ie,hG,et,og]
    let alT:p.gy.L=2^(bh Ì).L:=by
     rw[mY];exact Xg _ _ _ (by rw[ak,ik])
    let h2k:2^(bh Ì).L<=1024:=ym Ñ Ib.c6;let h2p:0<2^(bh Ì).L:=Nat.pow_pos Ñ;let n0:p.eX.L=lacks.L:=by
     let:=b9 List.length Ie;delta oU at this;rw[ak,ak] at this;exact this
    let BP:n8 CP Y p:=⟨ok,aL,λq M=>by rw[alT];exact Xh (p:=ig q) (by rw[<-Ie];exact bG.mpr ⟨q,M,rfl⟩),by lia,by lia,by lia,by rw[<-O3,Ie,alJ];exact Bl,by rw[lK];exact Ib.c6⟩;let Vc:p.gy=(qg Ì y.m).2:=b9 Prod.snd XM;rw[<-Vc] at O;refine⟨_,Á,aY ok.a TP.1 (TP.2 _ Ä) (Xf p) ⟨p.sp,p.gy,Á,aa.of ok.sp,by omega,λm hm lX=>⟨_,_,rfl,rfl,_,rfl,a0 Äk Äk⟩⟩⟩
    .simp at lg;rw[ah (tu.mpr ⟨m,hm,eP lg⟩)] at O;exact k2 (aQ O).symm Y s9
    .simp at lg;rw[ag (λe=>by
      let(z',Fx,h2):=tu.mp e;let:=mO h2;let:=lX z' Fx;lia)] at O
     rw[<-XM,<-lK,<-og] at O;let(r0,o5,er):=u0.mp O;let k3:=k1 r0.1 er.symm;clear O alO k1 k2;let Ig:=s9 _ _ rl;let XO:=l4.E (s6.R s8);let alU:=ju XO;let alV:=aU.E W.l s9;let Ih:∀b o,Y b=Α Èa->b≠p.a/\b≠p.gp:=λb o e=>⟨λz=>(by rw[z,ok.a] at e;cases e),λz=>(by rw[z,ok.gp] at e;cases e)⟩;apply(_,Á,y.a,_,Á,aa.of Ig,λD3 sO=>?_);let Er:=apart_new ok sO;refine mh (K:=K) (a:=y.a) (xs:=y.ls.M λx=>V.ref x.a) (DsI CP D3 p Y y z r0)
      ⟨p,[],r0,ai.x (aG sO),BP.upd Er,rfl,rfl,rfl,uD.refl,Er,aq,rfl,by simp,o5,rfl⟩ (λi H7 _ h=>(by let(p2,zs,r2,sx):=h;exact aa.of (sx _ _ Ig (Ih _ _ Ig).1 (Ih _ _ Ig).2))) ?_ ?_
     .rintro i v Tt H7 hi ⟨p2,zs,r2,sx,g2,ea,eg,es,ow,ap,Pe,Pf,zm,j,xO⟩ hT;let(x,J,rfl):=gQ hi;let dm:=(bo.mp J).1;obtain⟨u,hu⟩:∃u,z.ls[i]? =Α u:=⟨_,cI Å⟩;let Z:=bj J;let hum:=bj hu;let Wg:=nc alV Z;let hu6:=nc XO hum;let il:(oa y.m z.m)[i]? =Α (x.ns.zip u.ns):=by
       ext oa cA.m;rw[bz,(JT (i:=i) (l₁:=y.ls.M dc.ns) (l₂:=z.ls.M dc.ns) (z:=(x.ns,u.ns))).mpr ⟨by rw[bz,J];rfl,by rw[bz,hu];rfl⟩];rfl
      rw[Bi il] at j;delta n9 at j;cases e1:oY p.sames p2.st (x.ns.zip u.ns) with
      |none=>rw[e1] at j;cases j
      |some y1=>
       rw[e1] at j;dsimp only at j;cases e2:n9 p.sames y1.2 ((oa y.m z.m).drop (i+1)) with
       |none=>rw[e2] at j;cases j
       |some y2=>
        rw[e2] at j;let j:=aQ j;subst j;let t1:ai H7 (upd H7 Tt (.tup [.int (i:Nat),.ref x.a])):=aG hT;refine à;generalize hHx:upd H7 Tt (.tup [.int (i:Nat),.ref x.a])=Hx at t1;let kept:∀b o,Y b=Α Èa->Hx b=Α Èa:=λb o e=>t1 _ _ (sx _ _ e (Ih _ _ e).1 (Ih _ _ e).2);apply(_,Á,_,Á,_,Á,_,Á,z.a,_,_,.ref u.a,Á,Á,aa.of (kept _ _ alU),fZ (by rw[bz,hu];rfl),p2,x,u,y1,by rw[ea];rfl,g2.E t1,λq M=>?_,λq M=>?_,XI i x u J hu,W.short x Z,by rw[es];exact e1,λH8 p3 q g3 Bq Br Pb Xz Bs Bt uE alY alZ=>?_)
        .simp only[lsN,a8,kZ,k7] at M;subst M;exact kept _ _ Wg
        .simp only[lsN,a8,kZ,k7] at M;subst M;exact kept _ _ hu6
        .let Es:=t1 _ _ Pe;let Ii:=Bs _ _ Es ap.1 ap.2.1;let Et:=O8 ap Bq Br Bt (by rw[Es];exact λz=>by cases z);let XQ:q≠D3:=λe=>by rw[e,Es] at uE;cases uE
         let XR:∀a,Hx a=Β->Y a=Β:=λa h=>by
          cases e:Y a with
          |none=>rfl
          |some o=>
           exfalso;let hn:=t1.free h;by_cases U:a=p.a
           .rw[U,<-ea,g2.ok.a] at hn;cases hn
           .by_cases h2:a=p.gp
            .rw[h2,<-eg,g2.ok.gp] at hn;cases hn
            .rw[sx a o e U h2] at hn;cases hn
         apply(_,Ii,by rw[ak];exact f7 Î,p3,zs++[⟨q,y1.1⟩],y2,λb o e U h2=>?_,g3.upd Et,Bq.R ea,Br.R eg,Pb.R es,λa ha=>?_,Et,?_,by rw[j4,Pf];rfl,λw hw=>?_,by rw[Xz];exact e2,?_)
         .rw[az (eQ e sO)];exact Bs _ _ (t1 _ _ (sx b o e U h2)) (by rw[ea];exact U) (by rw[eg];exact h2)
         .exact(Bt a ha).elim (ow a) λh=>.inr (XR a h)
         .rw[aq,bH];rfl
         .rcases fu.mp hw with hw|hw
          .let(w1,w2,w3,w5):=zm w hw;let w4:=t1 _ _ w1;apply(?_,O8 w2 Bq Br Bt (by rw[w4];exact λz=>by cases z),w3,w5);rw[az w5];exact Bs _ _ w4 w2.1 w2.2.1
          .let:w=⟨q,y1.1⟩:=by simpa using hw
           subst this;apply(?_,alZ,XR _ uE,XQ);rw[az XQ];exact alY
         .rw[bH,rJ];exact xO
     .rintro H7 ⟨p2,zs,r2,sx,g2,ea,eg,es,ow,ap,Pe,Pf,zm,j,xO⟩;rw[ak] at Pf j;rw[abv (by ext oa;rw[ak,List.length_zip,ie];symm)] at j;cases j;rw[jF] at xO;let sF:=λb o e=>sx b o (s9 _ _ e) (λz=>(by rw[z,s7.free AR] at e;cases e)) (λz=>(by rw[z,s7.free HR] at e;cases e));apply k3 H7 ⟨D3,zs⟩ sF xO (WS Pe λx J q M=>?_) (DZ (s9.free sO) λx J q M=>?_)
      .simp only[lsN,a8,kZ,k7] at M;subst M;exact(zm x J).1
      .simp only[lsN,a8,kZ,k7] at M;subst M;exact s9.free (zm x J).2.2.1
end
def uF(part:LI):Bool:=!(decide (part.L>64)||(JM.aN 32 part).Y [])&&part.all λb=>decide (32<=b)&&decide (b<=126)
inductive XS(K:FR)(CB:Addr)(vs:ay)(H:Hp)(Q:VK)(E:XK):Prop
 |mk (ap:Addr) (part:LI) (_:vs=[.ref ap]) (_:ä ap Ão) (_:part.L<=100000) (_:(uF part=true->∀H',ai H H'->Q Én H')) (_:(uF part=false->No E CB H))
theorem XU{K:FR}{H:Hp}:∀{qs:LA}{L:dJ},eU H qs L->jm K H Äu (L.M λl=>PyData.list (l.M PyData.int)):=by
 intro qs L j;induction j with
 |nil=>exact .nil
 |cons h t q=>
  exact .cons (.lst (aa.of h) (qN _)) q
theorem any_empty(L:dJ):((L.M λl=>PyData.list (l.M PyData.int)).any λd=>PyData.eqv d (.list []))=L.Y []:=by
 induction L with
 |nil=>rfl
 |cons l L j=>
  rw[a7,va,j,BQ];congr 1;cases l <;> rfl
section
variable{P:Pg}{w:Wd}{K:FR}{mg:MG}{base:Heap}{CK CL CS N CV CP CB:Addr}{C:Cs}
def Ph:bC ["part","byte"] ["part"] (ba M0):=cg
def al0{f:Addr}{fd:FD}(F:br K "read_meaning" "read_meaning" M0 f fd)(tL:mg "len"=Β)(tA:mg "all"=Β)(X:Ğ "NoBook" CB N)(Y:Cn mg "LONGEST_MEANING" (.int 64))(cB:Cn mg "BLANK" Æs)(cP:Cn mg "LAST_PRINTED" (.int 126))(Z:Ç 1 "cut" ["text","mark"] (xw K)):Ģ Ē 2 f fd ["part"] (XS K CB):=by
 refine F.qL Ph Â;let(q,part,rfl,J,hl,k1,k2):=h;refine⟨_,aB (dj (PW.pt (pw_or (cw rW č (cu Y) (bU _)) (pw_or1 (cw (Li (qy (abb Ñ _) hr.un)) Ĩ (bx Z (ae Ø Ϸ)) (by with_unfolding_all rfl))))) ő dQ)
  (aB (dj (qB (jh (c8 (w6 rfl) Ð tA zY (ae (eA (own:=[("byte",1)]) (te:=Ko (gE λi j=>.bl (decide (i<=j))) (gE λi j=>.bl (decide (i<=j))) (tC Æs) ž (tC (.int 126))) rfl Ph.nd Åe Ê
   (λ_ _ _ _ _=>cZ 1 Ph.nd) Ò (λ_ _ _ _ _=>SS yA yA (cu cB) á (cu cP))) af)))) Ý dQ)
  (aA (aV Ø))),?_⟩
 let em:uF part=(!(decide (part.L>64)||(JM.aN 32 part).Y [])&&part.all λb=>decide (32<=b)&&decide (b<=126)):=rfl;refine⟨_,Á,q,_,Á,.inl J,_,_,Á,Á,_,Á,a0 Ï Ï⟩
 .let hc:part.L>64:=by
   grind
  apply lp (gc (k2 ?_));symm
 .let hc:¬part.L>64:=by
   grind
  apply(di _,λl U=>⟨_,Á,q,32,part,Á,L2.ai.seq (aG U) J,hl,λW p qs nw qY nd aL fr=>?_⟩);let s1:ai H (ϑ ã):=aG U;let s2:=s1.R nw.1;let jM:=nw.1 _ _ aq;apply(p,_,_,.list [],Á,aa.of nw.2.2,XU qY,.lst (aa.of jM) .nil,λd hd=>?_,Á,_,Á,?_)
  .let(x,_,rfl):=bG.mp hd;exact shaped_ints x
  rw[any_empty];refine a0 Äk Äk
  .apply gc ((k2 ?_).go s2);symm
  .let e1:uF part=part.all λb=>decide (32<=b)&&decide (b<=126):=by
    symm
   refine⟨_,Á,q,Á,⟨_,s2.seq J⟩,λD hD=>fV (K:=K) (a:=q) (xs:=iv part) (cy W D λi v ns=>ns=[]/\∀b,part[i]? =Α b->v=.bl (decide (32<=b)&&decide (b<=126))) Ď (λi H' _ f=>(s2.R f.E).seq J) ą þ⟩
   .let(z,hz,rfl):=ua hi;let dm:=(bo.mp hz).1;refine⟨Á,eJ ⟨_,Á,_,_,Á,Á,_,Á,a0 ū ū⟩⟩
    .apply(_,_,Á,Á,?_);apply f.step hD Î Ĥ ⟨Á,λb hb=>?_⟩ aU.nil Ä;symm
    .apply f.step hD (by omega) Ĥ ⟨Á,λb hb=>?_⟩ aU.nil Ä;lia
   .let(ys,s3,iK,O,fl):=f.end;rw[dw] at O;let ey:ys=(part.M λb=>decide (32<=b)&&decide (b<=126)).M V.bl:=by
     rw[cj];apply ug O λi y x h1 h2=>?_;let(ns,(_,e),_):=fl i y h1;symm
    apply(D,part.M λb=>decide (32<=b)&&decide (b<=126),Á,by rw[<-ey];exact aa.of iK,_,rfl,?_);rw[rH];let e2:part.all (id∘ λb=>decide (32<=b)&&decide (b<=126))=uF part:=by rw[e1];rfl
    rw[e2];apply a0 (λM=>?_) (λM=>?_)
    .exact gc ((k2 Å).go ğ)
    .exact(_,Á,k1 Å H' ğ)
end
abbrev keyOf(name:LI):eM:=name.M Sum.inl
def XW(name:LI):iv name=(keyOf name).M kV:=by
 ext iv keyOf;rw[cj];rfl
theorem al2(h:keyOf a=keyOf b):a=b:=by
 induction a generalizing b with
 |nil=>
  symm
 |cons x a j=>
  cases b with
  |nil=>cases h
  |cons y b=>
   grind
def kJ(ms:aI)(i:Nat):Bool:=decide ((ms.D i eW).role=0)
def uG(ms:aI)(n:Nat):List (LI×Nat):=((List.range n).J (kJ ms)).M λj=>((ms.D j eW).name,j)
def kO(ms:aI)(name:LI):Option Nat:=(uG ms ms.L).foldl (λacc p=>if p.1=name then some p.2 else acc) none
def zo(ms:aI):List (eM×V):=(uG ms ms.L).foldl (λacc p=>putK acc (keyOf p.1) (V.int ((p.2:Nat):Int))) []
def al3(ms:aI)(name:LI):gJ (zo ms) (keyOf name)=(kO ms name).M λn=>V.int ((n:Nat):Int):=by
 ext zo kO;let gen:∀(l:List (LI×Nat))(kvs:List (eM×V))(acc:Option Nat),gJ kvs (keyOf name)=acc.M (λn=>V.int ((n:Nat):Int))->
   gJ (l.foldl (λacc p=>putK acc (keyOf p.1) (V.int ((p.2:Nat):Int))) kvs) (keyOf name)=(l.foldl (λacc p=>if p.1=name then some p.2 else acc) acc).M λn=>V.int ((n:Nat):Int):=by
  intro l;induction l with
  |nil=>intro kvs acc h;exact h
  |cons p l j=>
   intro kvs acc h;rw[Fu,Fu];apply j _ _ ?_;rw[aeE];by_cases e:p.1=name
   .rw[ah e,ah (by rw[e])];rfl
   .rw[ag e,ag (λz=>e (al2 z).symm)];exact h
 exact gen _ [] none Á
def XX(ms:aI)(i:Nat):uG ms (i+1)=uG ms i++(if kJ ms i=true then [((ms.D i eW).name,i)] else []):=by
 ext uG;rw[D0,bH];grind
inductive XY(CK:Addr)(vs:ay)(H:Hp)(Q:VK)(E':XK):Prop
 |mk (pk:Addr) (ks:List au) (_:vs=[.ref pk]) (_:Ń ks) (_:∀H' p,Ů p (.dT (zo Ì))->Q Ĝ H')
section
variable{P:Pg}{w:Wd}{K:FR}{mg:MG}{base:Heap}{CK CL CS N CV CP CB:Addr}{C:Cs}
def Pi:bC ["kinds","number","kind"] ["kinds"] (ba MX):=cg
abbrev XZ(K:FR):ay->Hp->VK->Prop:=λxs H Q=>∃p ys,xs=[.ref p]/\((ä p ys/\∀l,H l=Β->Q Âa (ϑ Æq))\/(š p ys/\Q Ĝ H))
inductive NoI(D:Addr)(H:Hp)(ks:List au)(i:Nat)(H2:Hp):Prop
 |mk (ps:LA) (ts:List (eM×Addr×V)) (_:ai H H2) (_:H2 D=Α (.lst Àk)) (_:ps.L<=i) (_:Paired (λp(t:eM×Addr×V)=>H2 p=Α (.tup [.ref t.2.1,t.2.2])/\H2 t.2.1=Α (.tup (t.1.M kV))) ps ts) (_:ts.M (λt=>(t.1,t.2.2))=(uG Ì i).M λp=>(keyOf p.1,V.int ((p.2:Nat):Int)))
def al5(F:br K "numbers_of_signs" "numbers_of_signs" MX f fd)(T:ud K CK)(tD:mg "dict"=Β)(tT:mg "tuple"=Β)(tE:mg "enumerate"=Β)(cS:Cn mg "SIGN" œ):Ë 1 f fd ["kinds"] (XY CK):=by
 refine F.ok Pi Â;let(pk,ks,rfl,hk,k):=h;let hkf:=hk.c6;refine⟨_,aA (aV (vx (agD (qy (abb Ñ _) hr.un) Á) Ð tD W2 (ae (eA (own:=[("number",1),("kind",2)]) (g:=g2 K 1 2) (tt:=mX (bQ pL (fj K ř "role") Är))
   (te:=vt (a9 (rY (XZ K) (a9 (fj K ř "name") dq)) (a9 ž dq))) rfl Pi.nd
   (Ás) Ê
   (λ_ _ _ _ _=>iA 1 2 Pi.nd)
   (λ_ _ _ _ _=>oE (cw iB Àt Çm (bU _)))
   (λ_ _ _ _ _=>rX (ae (vx Ti Ð tT boot_tuple Èu) Ĺ))) af))),?_⟩
 refine⟨_,Á,pk,_,Á,aa.of hk.a,λD hD=>mh (K:=K) (a:=pk) (xs:=ks.M λk=>V.ref k.a) (NoI D H ks)
  ⟨[],[],aG hD,aq,bA _,.nil,rfl⟩ (λi H2 _ h=>(by let(_,_,q):=h;exact aa.of (q _ _ hk.a))) ?_ ?_⟩
 .rintro i v Tt H2 hi ⟨ps,ts,q,J,dY,W,M⟩ hT;let(b,hb,rfl):=gQ hi;let dm:=(bo.mp hb).1;let j:ai H2 (Ū (.tup [.int (i:Nat),.ref b.a])):=aG hT;let s3:=q.R j;let U:=(nY hk.l Èt).E s3;let Z:(ks.M au.m).D i eW=b.m:=getD_map hb;refine è;refine⟨_,Á,aY (jQ U) T.c T.xB (xA b) Ļ⟩;rw[show V.int 0=V.int ((0:Nat):Int) from rfl,nF];generalize hHx:Ū (.tup [.int (i:Nat),.ref b.a])=Hx at j s3 U;refine a0 Ï Ï
  .apply(_,Á,aY (jQ U) T.c T.nName (V9 b) ⟨b.nm,_,Á,.inl ⟨aa.of (Wl U),λl hl=>⟨_,Á,(by show 2<=sizeLine;decide),λt O=>?_⟩⟩⟩);let s4:=aG (o:=.tup (iv b.m.name)) hl;let Y:=j.R (s4.R (aG (o:=.tup [.ref l,.int (i:Nat)]) O));let bO:l≠t:=λz=>by rw[<-z,aq] at O;cases O
   let Ef:=j.free (s4.free O);let hDl:l≠D:=λz=>by rw[z,j _ _ J] at hl;cases hl
   let OX:t≠D:=λz=>by rw[z,J] at Ef;cases Ef
   apply(_,Y _ _ J,by rw[ak];exact f7 Î,ps++[t],ts++[(keyOf b.m.name,l,V.int ((i:Nat):Int))],sr (q.R Y) hD,?_,?_,?_,?_)
   .rw[aq,bH];rfl
   .symm
   .refine Paired.snoc (Paired.oq W λp t' e=>Ϧ) Ϧ
    .rw[az (λz=>by simp_all)];exact Y _ _ e.1
    .rw[az (λz=>by simp_all)];exact Y _ _ e.2
    .rw[az OX];exact aq
    .rw[az hDl,az bO,aq,XW]
   .rw[bH,M,XX,ah (show kJ Ì i=true by ext kJ;rw[Z];exact hc),bH,Z];rfl
  .apply(ps,ts,q.R j,j _ _ J,Nat.le_succ_of_le dY,Paired.oq W λp t e=>⟨j _ _ e.1,j _ _ e.2⟩,?_);rw[M,XX,ag (show ¬kJ Ì i=true by ext kJ;rw[Z];exact hc),jF]
 .rintro H2 ⟨ps,ts,q,J,dY,W,M⟩;rw[ak] at M;apply(D,ps,ts,Á,aa.of J,W,λp hp=>?_);apply k _ p ⟨q.R (aG hp),q.free hp,?_⟩;rw[aq];let em:su [] ts=zo Ì:=by
   let e1:su [] ts=(ts.M λt=>(t.1,t.2.2)).foldl (λacc p=>putK acc p.1 p.2) []:=by
    ext su;rw[List.foldl_map]
   rw[e1,M,List.foldl_map];ext zo;simp
  rw[em]
end
def oV:Option Nat->V
 |none=>.aO
 |some n=>.int ((n:Nat):Int)
def qk(ms:aI)(part:LI):List (Option Nat):=(JM.aN 46 part).M (kO ms)
def xQ(ms:aI)(part:LI):Option LN:=if (qk ms part).L>8\/(qk ms part).Y none=true then none else some ((qk ms part).M λo=>o.D 0)
inductive X0(K:FR)(CB:Addr)(vs:ay)(H:Hp)(Q:VK)(E:XK):Prop
 |mk (ap pn:Addr) (ms:aI) (part:LI) (_:vs=[.ref ap,.ref pn]) (_:ä ap Ão) (_:part.L<=100000) (_:H pn=Α (.dT (zo ms))) (_:(∀row,xQ ms part=Α row->∀H' p,Ů p Äi->Q Ĝ H')) (_:(xQ ms part=Β->No E CB H))
def al7(l:List (Option Nat)):(l.M oV).all mZ=true:=by
 rw[rH];exact jH.mpr λo _=>by cases o <;> rfl
theorem al8(l:List (Option Nat)):wZ .aO (l.M oV)=l.Y none:=by
 ext wZ;rw[JF];induction l with
 |nil=>rfl
 |cons o l j=>
  rw[va,BQ,j];congr 1;cases o <;> rfl
section
variable{P:Pg}{w:Wd}{K:FR}{mg:MG}{base:Heap}{CK CL CS N CV CP CB:Addr}{C:Cs}
def Pj:bC ["part","numbers","row","name"] ["part","numbers"] (ba MZ):=cg
def al9(F:br K "read_signs" "read_signs" MZ f fd)(tL:mg "len"=Β)(tT:mg "tuple"=Β)(X:Ğ "NoBook" CB N)(cF:Cn mg "MOST_FLAGS" Éo)(cS:Cn mg "FULL_STOP" (.int 46))(dC:Ç 1 "cut" ["text","mark"] (xw K)):Ģ Ē 2 f fd ["part","numbers"] (X0 K CB):=by
 refine F.qL Pj Â;let(ap,pn,ms,part,rfl,hP,hl,Pk,k1,k2):=h;let hu:A.units+3+1<cLine:=qy Ä hr.un;refine⟨_,aB (tQ (i:=2) (own:=[("name",3)]) (te:=Uk ž (rY (XZ K) Âk)) Á Pj.nd Á Á Ð (dX (bx dC (ae Ø (ae Çm af)))) Ê
   (λ_ _ _ _ _=>cZ 3 Pj.nd) Ò (λ_ _ _ _ _=>aeV hu á (vx Ti Ð tT boot_tuple ĳ) ⟨rfl,rfl,rfl,rfl⟩))
  (aB (dj (PW.pt (pw_or (cw rW ā (cu cF) (bU _)) (pw_or1 (cw KA rQ å (by with_unfolding_all rfl))))) Ý dQ)
  Çr),?_⟩
 refine⟨_,Á,ap,46,part,Á,hP,hl,λH1 p Z nw J nd aL fr=>⟨p,Á,⟨_,aa.of nw.2.2⟩,λD hD=>fV (K:=K) (a:=p) (xs:=Z.M V.ref) (cy H1 D λi v ns=>ns=[]/\∀x,(JM.aN 46 part)[i]? =Α x->v=oV (kO ms x)) Ď (λi H' _ f=>aa.of (f.E _ _ nw.2.2)) ą þ⟩⟩
 .rw[bz] at hi;cases eq:Z[i]? with
  |none=>symm
  |some q=>
   rw[eq] at hi;cases hi;let(x,hx,hq):=eU.get J eq;let dm:=(bo.mp eq).1;let gH:=GQ 46 part;let uj:=J.len;let O:=f.E _ _ (nw.1 _ _ Pk);apply(Á,eJ ⟨_,Á,pn,Á,.inr ⟨_,.inl O⟩,_,Á,q,_,Á,.inl ⟨aa.of (f.E _ _ hq),λl Y=>⟨_,lj.t (k:=keyOf x) ((aG Y) _ _ O) (by rw[aq,XW]),?_⟩⟩⟩);rw[al3];apply f.step hD Î (aG Y) ⟨Á,λx' xg=>?_⟩ aU.nil Ä;rw[hx] at xg;cases xg;cases kO ms x <;> rfl
 .let(ys,s1,j,U,fl):=f.end;rw[ak,J.len] at U;let ey:ys=(qk ms part).M oV:=by
   ext qk;rw[cj];apply ug U λi y x h1 h2=>?_;let(ns,(_,e),_):=fl i y h1;symm
  subst ey;let M:=nw.1.R s1;let W:xQ ms part=if (qk ms part).L>8\/(qk ms part).Y none=true then none else some ((qk ms part).M λo=>o.D 0):=rfl;generalize qk ms part=L at j W;refine⟨_,Á,D,_,Á,.inl (aa.of j),_,_,Á,Á,_,Á,a0 Ï Ï⟩
  .let hc:L.L>8:=by
    grind
   apply lp (gc ((k2 ?_).go M));symm
  .let hc:¬L.L>8:=by
    grind
   apply(_,Á,D,_,Á,.inl (aa.of j),Á,al7 L,_,Á,?_);rw[al8];refine a0 Äk Äk
   .apply gc ((k2 ?_).go M);symm
   .apply(_,Á,k1 _ (by rw[W,ag (λz=>z.elim hc lg)]) H' D ⟨M,nw.1.free hD,?_⟩);rw[j];congr 2;ext iv nv;rw[cj,cj];apply iT λo ho=>?_;cases o with
    |none=>symm
    |some n=>rfl
end
structure bI where
 a:Addr
 dx:Addr
 rw:Addr
 mn:Addr
 row:LN
 Pl:LI
def Ij(e:bI):List (Str×V):=[("row",.ref e.rw),("meaning",.ref e.mn)]
def ql(CE:Addr)(e:bI):jo:=[(e.a,.ins CE e.dx (Ij e)),(e.rw,.lst Èf),(e.mn,.lst (iv e.Pl))]
def bI.m(e:bI):LN×LI:=(e.row,e.Pl)
def Ew(e:bI):(Ij e).Q ("row":Str)=Α (.ref e.rw):=gK
def Ey{CE:Addr}{H:Hp}{e:bI}(h:aU H Äv):H e.a=Α (.ins CE e.dx (Ij e)):=h (e.a,_) (by simp[ql])
def Ez{CE:Addr}{H:Hp}{e:bI}(h:aU H Äv):H e.rw=Α (.lst Èf):=h (e.rw,_) (by simp[ql])
def ama{CE:Addr}{H:Hp}{e:bI}(j:H e.a=Α (.ins CE e.dx (Ij e)))(h2:H e.rw=Α (.lst Èf))(q:H e.mn=Α (.lst (iv e.Pl))):aU H Äv:=λz hz=>by
 simp only[ql,a8,kZ,k7] at hz;rcases hz with rfl|rfl|rfl
 .exact j
 .exact h2
 .exact q
def amb{CE:Addr}{H:Hp}{e:bI}(j:H e.a=Β)(h2:H e.rw=Β)(q:H e.mn=Β):i9 H Äv:=λz hz=>by
 simp only[ql,a8,kZ,k7] at hz;rcases hz with rfl|rfl|rfl
 .exact j
 .exact h2
 .exact q
def iP(ms:aI)(line:LI):Option (LN×LI):=if line.Y 32=true then
  match xQ ms (line.take (line.idxOf 32)) with
  |none=>none
  |some row=>if uF (line.drop (line.idxOf 32+1))=true then some (row,line.drop (line.idxOf 32+1)) else none
 else none
inductive Pn(K:FR)(CB CE:Addr)(vs:ay)(H:Hp)(Q:VK)(E:XK):Prop
 |mk (ap pn:Addr) (ms:aI) (line:LI) (_:vs=[.ref ap,.ref pn]) (_:ä ap Æo) (_:line.L<=100000) (_:H pn=Α (.dT (zo ms))) (_:(∀x,iP ms line=Α x->∀H' e,ai H H'->bI.m e=x->aU H' Äv->i9 H Äv->Q (.ref e.a) H')) (_:(iP ms line=Β->No E CB H))
section
variable{P:Pg}{w:Wd}{K:FR}{mg:MG}{base:Heap}{CK CL CS N CV CP CB CE fO:Addr}{C:Cs}
def X6:bC ["line","numbers","end"] ["line","numbers"] (ba MY):=cg
def amc{f:Addr}{fd:FD}(F:br K "read_entry" "read_entry" MY f fd)(X:Ğ "NoBook" CB N)(cB:Cn mg "BLANK" Æs)(dE:Ā "Entry" CE ["row","meaning"])(dS:Ċ Ē 2 "read_signs" ["part","numbers"] (X0 K CB)) (dM:Ċ Ē 2 "read_meaning" ["part"] (XS K CB)):Ģ Ē 3 f fd ["line","numbers"] (Pn K CB CE):=by
 let(fS,yT,GS,mS,kS,bS):=dS;let(fM,fdM,GM,mM,kM,bM):=dM;refine F.qL X6 Â;let(W,pn,ms,line,rfl,M,hl,Pk,k1,k2):=h;refine⟨_,aB (dj (cw adR (cu cB) Ø (by with_unfolding_all rfl)) ő dQ)
  (aB (cf 2 X6.nd (pO PySem.F.plainAttrs_list PySem.F.slot_list_index PySem.F.type_list_index TF Ø Ϸ))
  (aA (aV (pV dE hr (ae (nH GS hr rfl mS kS bS .nil sk (ae (wW wY Ø wU (wV å)) Ĺ)) (ae (nH GM hr rfl mM kM bM .nil sk (ae (wW wY Ø (wV (d9 pK å bc)) wU) af)) af)))))),?_⟩
 let q:iP ms line=if line.Y 32=true then (match xQ ms (line.take (line.idxOf 32)) with
  |none=>none
  |some row=>if uF (line.drop (line.idxOf 32+1))=true then some (row,line.drop (line.idxOf 32+1)) else none) else none:=rfl
 apply(_,Á,W,_,Á,.inl M,Á,DA _,_,Á,?_);rw[Nh];refine a0 Ï Ï
 .let hc:¬line.Y 32=true:=by simpa using hc
  exact gc (k2 Å)
 .let hc:line.Y 32=true:=by simpa using hc
  rw[ah hc] at q;let(j,zz,ej,hj,Nj,DB):=VF hc;let oC:j<line.L:=by
   grind
  apply(_,Á,.inl ⟨Á,_,M⟩,W,_,_,j,zz,Á,Á,M,Á,DA _,hj,Nj,DB,?_);let ej:line.idxOf 32=j:=by omega
  rw[ej] at q;apply(_,Á,_,Á,_,Á,W,_,Á,M,λJ HQ=>?_);rw[Of _ (show j<=(iv line).L by grind),show(iv line).take j=iv (line.take j) by simp];let O:ai H (upd H J ϟ):=aG HQ;let X7:(upd H J ϟ) J=Α ϟ:=aq;generalize upd H J ϟ=H1 at O X7;apply(_,Á,J,pn,ms,line.take j,Á,aa.of X7,by grind,O _ _ Pk,λrow Z U p n2=>?_,λZ=>?_)
  .rw[Z] at q;dsimp only at q;let s2:=O.R n2.1;apply(_,Á,_,Á,_,_,Á,Á,_,Á,W,_,Á,s2.seq M,λz lg=>?_);rw[show((j:Int)+1)=((j+1:Nat):Int) from rfl,DM _ (show j+1<=(iv line).L by grind),show(iv line).drop (j+1)=iv (line.drop (j+1)) by simp];let s3:ai U (upd U z (.lst (iv (line.drop (j+1))))):=aG lg;let Y:(upd U z (.lst (iv (line.drop (j+1))))) z=Α (.lst (iv (line.drop (j+1)))):=aq;generalize upd U z (.lst (iv (line.drop (j+1))))=H3 at s3 Y;apply(z,line.drop (j+1),Á,aa.of Y,by grind,λem H4 s4=>?_,λem=>?_)
   .rw[ah em] at q;apply xE Á λx dx H5 hx gU aL e5 s5=>?_;let s6:=s2.R (s3.R s4);refine k1 _ q H5 ⟨x,dx,p,z,row,line.drop (j+1)⟩ (s6.R s5) Á (ama e5 (s5 _ _ (s4 _ _ (s3 _ _ n2.2.2))) (s5 _ _ (s4 _ _ Y))) (amb (s6.free hx) (O.free n2.2.1) (s2.free lg))
   .rw[ag Å] at q;exact(k2 q).go ğ
  .rw[Z] at q;exact(k2 q).go O
end
def we(r s:LN):Bool:=if ((r.L:Nat):Int)=((s.L:Nat):Int) then HT.lexLt (nv r) (nv s) else decide (((r.L:Nat):Int)<((s.L:Nat):Int))
def Bu(rows:bf):Bool:=(rows.zip (rows.drop 1)).all λp=>we p.1 p.2
structure zp(CE:Addr)(H:Hp)(p:Addr)(es:List bI):Prop where
 a:H p=Α (.lst (es.M λe=>V.ref e.a))
 l:∀e∈es,aU H Äv
 c6:es.L<=2048
def zp.same{CE:Addr}{H H':Hp}{p:Addr}{es:List bI}(h:zp CE H p es)(s:ai H H'):zp CE H' p es:=⟨s _ _ h.a,λe j=>(h.l e j).E s,h.c6⟩
inductive X8(CE:Addr)(vs:ay)(H:Hp)(Q:VK)(E':XK):Prop
 |mk (p:Addr) (es:List bI) (_:vs=[.ref p]) (_:zp CE H p es) (_:∀H',ai H H'->Q (.bl (Bu Ãw)) H')
def EA(row:LN)(rw p:Addr):jo:=[(p,.tup [.int ((row.L:Nat):Int),.ref rw])]
section
variable{P:Pg}{w:Wd}{K:FR}{mg:MG}{base:Heap}{CK CL CS N CV CP CB CE fO:Addr}{C:Cs}
def Bv:bC ["entries","places","entry","before","place"] ["entries"] (ba M3):=cg
def amd(F:br K "are_in_order" "are_in_order" M3 f fd)(T:jt K CE ["row","meaning"])(tL:mg "len"=Β)(tA:mg "all"=Β)(tE:mg "enumerate"=Β):Ë 1 f fd ["entries"] (X8 CE):=by
 refine F.ok Bv Â;let(p,es,rfl,J,k):=h;let hu:A.units+3+128<cLine:=by let:=hr.un;exact qy Ä this
 refine⟨_,aB (cf 1 Bv.nd (eA (own:=[("entry",2)]) (te:=vt (a9 (rY (λxs H Q=>∃p ys,xs=[.ref p]/\(ä p ys\/bw K H p ys)/\Q (.int ((ys.L:Nat):Int)) H) (a9 (fj K ř "row") dq)) (a9 (fj K ř "row") dq))) Á Bv.nd Åe Ê
   (λ_ _ _ _ _=>cZ 2 Bv.nd) Ò (λ_ _ _ _ _=>rX (ae (c8 gv Ð tL PySem.boot_len Èu) Èu))))
  (aA (aV (c8 (w6 rfl) Ð tA zY (ae (eA (own:=[("before",3),("place",4)]) (g:=g2 K 3 4) (te:=bQ (Vf K) (bQ Ũ ž Ŀ) Ãt) rfl Bv.nd
   (jO Ð tE (ae (wW wY á (wV bc) wU) af)) Ê
   (λ_ _ _ _ _=>iA 3 4 Bv.nd) Ò
   (λ_ _ _ _ _=>j7 (agK hu) (cJ c9 á ö Ö) ę (bU _))) af)))),?_⟩
 let hf:=J.c6;refine⟨_,Á,p,Á,⟨_,aa.of J.a⟩,λD hD=>fV (K:=K) (a:=p) (xs:=es.M λe=>V.ref e.a) (cy H D λi y ns=>∃b:bI×Addr,es[i]? =Α b.1/\y=.ref b.2/\ns=EA b.1.row b.1.rw b.2) Ď (λi H' _ f=>aa.of (f.E _ _ J.a)) ą þ⟩
 .let(e,O,rfl):=gQ hi;let dm:=(bo.mp O).1;let j:=(J.l e (bj O)).E f.E;apply(Á,eJ ⟨_,Á,aY (Ey j) T.1 (T.2 _ Ä) (Ew e) ⟨e.rw,_,Á,.inl (aa.of (Ez j)),_,Á,aY (Ey j) T.1 (T.2 _ Ä) (Ew e) ⟨(by show 2<=sizeLine;decide),λt ht=>?_⟩⟩⟩);apply f.step hD Î (aG ht) ⟨(e,t),O,Á,Á⟩ ?_ ?_
  .intro z hz;simp only[EA,iS] at hz;subst hz;rw[aq];simp
  .intro z hz;simp only[EA,iS] at hz;subst hz;let(ys,_,hd,_):=f.end;lia
 .let(ys,s1,hd,j,fl):=f.end;let(bs,rfl,r1,l1):=y6 (v:=λb:bI×Addr=>V.ref b.2) (nd:=λb=>EA b.1.row b.1.rw b.2) (R:=λi b=>es[i]? =Α b.1) fl;rw[ak,ak] at j;let Y:∀(i:Nat)(b:bI×Addr),bs[i]? =Α b->H' b.2=Α (.tup [.int ((b.1.row.L:Nat):Int),.ref b.1.rw])/\H' b.1.rw=Α (.lst (iv (nv b.1.row))):=λi b hb=>⟨l1 b Èt (b.2,.tup [.int ((b.1.row.L:Nat):Int),.ref b.1.rw]) (by simp[EA]),s1 _ _ (Ez (J.l b.1 (bj (r1 i b hb))))⟩;let ebs:bs.M Prod.fst=es:=by
   apply yl;grind
  apply(_,Á,_,Á,D,_,Á,aa.of hd,λc hc=>?_);let ex:pN (bs.M λb=>V.ref b.2) (some 1) none=(bs.drop 1).M λb=>V.ref b.2:=by
   by_cases hz:1<=bs.L
   .rw[show(1:Int)=((1:Nat):Int) from rfl,DM _ Å,RR]
   .let:bs=[]:=by
     symm
    rw[this];rfl
  rw[ex];let s2:=aG (o:=.lst ((bs.drop 1).M λb=>V.ref b.2)) hc;let U:(upd H' c (.lst ((bs.drop 1).M λb=>V.ref b.2))) c=Α (.lst ((bs.drop 1).M λb=>V.ref b.2)):=aq;generalize upd H' c (.lst ((bs.drop 1).M λb=>V.ref b.2))=H2 at s2 U;apply(c,_,Á,aa.of U,λZ ck=>mh (K:=K) (a:=c) (xs:=(bs.drop 1).M λb=>V.ref b.2) (cy H2 Z λi y ns=>ns=[]/\∃a b,bs[i]? =Α a/\bs[i+1]? =Α b/\y=.bl (we a.1.row b.1.row)) Ác (λi H3 _ f=>aa.of (f.E _ _ U)) (λi y Tt H3 hi f hT=>?_) Àx)
  .let(b,hb,rfl):=gQ hi;rw[abd] at hb;let hb:bs[i+1]? =Α b:=by rw[<-hb];congr 1;lia
   let hib:=(bo.mp hb).1;obtain⟨a,ha⟩:∃a,bs[i]? =Α a:=⟨_,cI Î⟩;let s3:ai H3 (upd H3 Tt (.tup [.int (i:Nat),.ref b.2])):=aG hT;let M:=(s2.R f.E).R s3;let X9:=Y i a ha;let W:=Y _ b hb;refine à;apply(_,Á,_,Á,D,_,(i:Int),.ref a.2,Á,Á,aa.of (M _ _ hd),fZ Å,_,Á,a.2,b.2,a.1.rw,b.1.rw,_,_,nv a.1.row,nv b.1.row,Á,Á,bw.of (M _ _ X9.1),bw.of (M _ _ W.1),aa.of (M _ _ X9.2),aa.of (M _ _ W.2),?_);exact f.step ck Î s3 ⟨Á,a,b,ha,hb,Á⟩ aU.nil Ä
  .let(ys,s3,iK,A3,fl):=f.end;let hz:((es.M bI.row).zip ((es.M bI.row).drop 1)).L=ys.L:=by
    symm
   let ey:ys=(((es.M bI.row).zip ((es.M bI.row).drop 1)).M λp=>we p.1 p.2).M V.bl:=by
    rw[cj];apply ug hz.symm λi y x h1 h2=>?_;let(ns,(_,a,b,ea,eb,e),_):=fl i y h1;grind
   apply(Z,_,Á,by rw[<-ey];exact aa.of iK,?_);let q:=k H3 (s1.R ğ);rw[rH];exact q
end
def Bw(h:H y.a=Α (.lst (y.ls.M λx=>V.ref x.a)))(h2:∀x∈y.ls,H x.a=Α ό):aU H Çl:=λz hz=>by
 rcases a8.mp hz with rfl|hz
 .exact h
 .let(x,j,hz):=jg.mp hz;simp only[lsN,iS] at hz;symm
def lO(ms:aI)(row:LN):Bool:=match o4 ms [row] with
 |some (some _)=>true
 |_=>false
structure Ik(ms:aI)(rows:bf):Prop where
 short:∀r∈rows,r.L<=8
 lt:∀r∈rows,∀s∈r,s<ms.L
 sg:∀r∈rows,∀s∈r,kJ ms s=true
inductive Yb(CK CE:Addr)(vs:ay)(H:Hp)(Q:VK)(E':XK):Prop
 |mk (pk:Addr) (ks:List au) (p:Addr) (es:List bI) (_:vs=[.ref pk,.ref p]) (_:Ń ks) (_:xP Ì) (_:zp CE H p es) (_:Ik Ì Ãw) (_:(∀e∈es,o4 Ì [e.row]≠none)) (_:∀H',ai H H'->Q (.bl ((es.M bI.row).all (lO Ì))) H')
section
variable{P:Pg}{w:Wd}{K:FR}{mg:MG}{base:Heap}{CK CL CS N CV CP CB CE fO:Addr}{C:Cs}
def Pp:bC ["kinds","entries","entry"] ["kinds","entries"] (ba M4):=cg
def ame(F:br K "can_be_shown" "can_be_shown" M4 f fd)(T:jt K CE ["row","meaning"])(tA:mg "all"=Β)(dD:Ç 4 "display_told" ["kinds","rows"] (Ia CK)):Ë 5 f fd ["kinds","entries"] (Yb CK CE):=by
 refine F.ok Pp Â;let(pk,ks,p,es,rfl,hk,hm,J,W,hd,k):=h;refine⟨_,aA (aV (c8 (w6 Á) Ð tA zY (ae (eA (own:=[("entry",2)]) (te:=Su (g8 (Ia CK) [] E0 (a9 Ų (a9 (Am (a9 (fj K ř "row") dq)) dq)))) Á Pp.nd Åd Ê
   (λ_ _ _ _ _=>cZ 2 Pp.nd) Ò (λ_ _ _ _ _=>Sw (Ka (bx dD (ae Ø (ae (dv Èu) af)))))) af))),?_⟩
 let hf:=J.c6;refine⟨_,Á,p,Á,⟨_,aa.of J.a⟩,λD hD=>fV (K:=K) (a:=p) (xs:=es.M λe=>V.ref e.a) (cy H D λi y ns=>ns=[]/\∃e,es[i]? =Α e/\y=.bl (lO Ì e.row)) Ď (λi H' _ f=>aa.of (f.E _ _ J.a)) ą þ⟩
 .let(e,q,rfl):=gQ hi;let dm:=(bo.mp q).1;let M:=bj q;let j:=(J.l e M).E f.E;apply(Á,eJ ⟨_,Á,_,Á,aY (Ey j) T.1 (T.2 _ Ä) (Ew e) ⟨(by show 1<=sizeLine;decide),λl Z=>?_⟩⟩);let s1:ai H' (upd H' l (.lst [.ref e.rw])):=aG Z;let U:(upd H' l (.lst [.ref e.rw])) l=Α (.lst [.ref e.rw]):=aq;generalize upd H' l (.lst [.ref e.rw])=H1 at s1 U;cases ed:o4 Ì [e.row] with
  |none=>symm
  |some r=>
   let hrw:=W.short e.row (bG.mpr ⟨e,M,rfl⟩);apply(pk,ks,⟨l,[⟨e.rw,e.row⟩]⟩,r,Á,(hk.E f.E).E s1,hm,⟨Bw U ϩ,Ä,ϩ,ϩ⟩,(by simp[cA.m];lia),ed,λhs O Y z s2 ez lz fz=>?_,λO Y s2=>?_)
   .obtain rfl:x=_:=by simpa using hx
    exact s1 _ _ (Ez j)
   .grind
   .obtain rfl:x=_:=by simpa using hx
    intro s hs;let:=W.lt e.row (bG.mpr ⟨e,M,rfl⟩) s hs;symm
   .exact f.step hD Î Áo ⟨Á,e,q,by ext lO;rw[ed,O];rfl⟩ aU.nil Ä
   .exact f.step hD (by omega) Áo ⟨Á,e,q,by ext lO;rw[ed,O];rfl⟩ aU.nil Ä
 .let(ys,s1,fW,j,fl):=f.end;rw[ak] at j;let ey:ys=((es.M bI.row).M (lO Ì)).M V.bl:=by
   rw[cj,cj];apply ug j λi y x h1 h2=>?_;let(ns,(_,e,ee,rfl),_):=fl i y h1;symm
  apply(D,_,Á,by rw[<-ey];exact aa.of fW,?_);symm
end
def jv(ms:aI):dJ->Option (List (LN×LI))
 |[]=>some []
 |l::r=>match iP ms l,jv ms r with
  |some e,some es=>some (e::es)
  |_,_=>none
theorem amf{ms:aI}{r:dJ}:∀{l:LI},l∈r->iP ms l=Β->jv ms r=Β:=by
 induction r with
 |nil=>intro l h;cases h
 |cons x r j=>
  intro l h e;ext jv;rcases a8.mp h with rfl|h
  .rw[e]
  .rw[j h e];cases iP ms x <;> rfl
theorem amg{ms:aI}{r:dJ}:∀{es:List (LN×LI)},es.L=r.L->(∀(i:Nat)l e,r[i]? =Α l->es[i]? =Α e->iP ms l=Α e)->jv ms r=Α es:=by
 induction r with
 |nil=>
  intro ms h _;cases ms with
  |nil=>rfl
  |cons _ _=>cases h
 |cons l r q=>
  intro es h k;cases es with
  |nil=>cases h
  |cons m es=>
   ext jv;rw[k 0 l m rfl rfl,q (es:=es) (À h) λi l m j h2=>k (i+1) l m j h2]
def Il(ms:aI)(nm:LI):Option (List (LN×LI))->Option (LI×List (LN×LI))
 |some es=>if (Bu (es.M (·.1))&&(es.M (·.1)).all (lO ms))=true then some (nm,es) else none
 |none=>none
def Pq(name:LI)(ms:aI)(j q:Option LI)(r:dJ):Option (LI×List (LN×LI)):=match j with
 |none=>none
 |some nm=>if q=Α name then Il ms nm (jv ms r) else none
def book1(name:LI)(ms:aI):Option dJ->Option (LI×List (LN×LI))
 |some (l::f::r)=>if r.L<=2048 then Pq name ms (fJ (codes "book") l) (fJ (codes "for") f) r else none
 |_=>none
def lQ(name:LI)(ms:aI)(j:LI):Option (LI×List (LN×LI)):=book1 name ms (kH j)
theorem amh(p:α->β->Prop)[∀x y,Decidable (p x y)](y:β)(f:α->Nat)(R:Nat->Prop)(l:List α):∀(acc:Option Nat),(∀x∈l,R (f x))->(∀m,acc=Α m->R m)->∀m,l.foldl (λacc x=>if p x y then some (f x) else acc) acc=Α m->R m:=by
 induction l with
 |nil=>exact @λacc _ h m e=>h m e
 |cons x l F=>
  intro acc q h m e;apply F _ (λz hz=>q z (aK _ hz)) (λM j=>?_) m e;dsimp only at j;split at j
  .cases j;exact q x Ä
  .exact h M j
def ami{ms:aI}{name:LI}{n:Nat}(h:kO ms name=Α n):n<ms.L/\kJ ms n=true:=by
 delta kO at h;refine amh (λ(p:LI×Nat)(nm:LI)=>p.1=nm) name (λp=>p.2) (λn=>n<ms.L/\kJ ms n=true) (uG ms ms.L) none ϩ (λm e=>(by cases e)) n h;delta uG at hx;let(j,z,rfl):=bG.mp hx;let(q,h2):=iz.mp z;exact(À q,h2)
def amj{ms:aI}{part:LI}{row:LN}(h:xQ ms part=Α row):row.L<=8/\∀s∈row,s<ms.L/\kJ ms s=true:=by
 delta xQ at h;by_cases hc:(qk ms part).L>8\/(qk ms part).Y none=true
 .grind
 .rw[ag hc] at h;let h:=(aQ h).symm;subst h;apply(?_,λs hs=>?_)
  .symm
  .let(o,j,rfl):=bG.mp hs;cases o with
   |none=>symm
   |some n=>
    delta qk at j;let(x,_,e):=bG.mp j;exact ami e
def Pt(h:iP ms line=Α e):e.1.L<=8/\∀s∈e.1,s<ms.L/\kJ ms s=true:=by
 delta iP at h;split at h
 .split at h
  .symm
  .rename_i row j;split at h
   .let h:=(aQ h).symm;subst h;exact amj j
   .symm
 .cases h
structure rB where
 a:Addr
 dx:Addr
 nm:Addr
 el:Addr
 name:LI
 es:List bI
def Yc(b:rB):List (Str×V):=[("name",.ref b.nm),("entries",.ref b.el)]
def Yd(b:rB):(Yc b).Q ("entries":Str)=Α (.ref b.el):=(fm É).R gK
structure zq(fO CE:Addr)(H:Hp)(b:rB):Prop where
 a:H b.a=Α (.ins fO b.dx (Yc b))
 n:H b.nm=Α (.lst (iv b.name))
 e:zp CE H b.el b.es
def zq.same{fO CE:Addr}{H H':Hp}{b:rB}(h:zq fO CE H b)(s:ai H H'):zq fO CE H' b:=⟨s _ _ h.a,s _ _ h.n,h.e.E s⟩
def rB.m(b:rB):LI×List (LN×LI):=(b.name,b.es.M bI.m)
structure wg(CL CK:Addr)(H:Hp)(l:vO):Prop where
 lies:aU H Äb
 c6:l.kinds.L<=66000
 look:∀k∈l.kinds,gf k.m.look
 ms:xP Ô
 sh:∀rows,(∀r∈rows,∀s∈r,kJ Ô s=true)->o4 Ô rows≠none
def wg.same(h:wg CL CK H l)(s:ai H H'):wg CL CK H' l:=⟨h.lies.E s,h.c6,h.look,h.ms,h.sh⟩
def wg.ks(h:wg CL CK H l):nh CK H l.kl l.kinds:=⟨akm h.lies,akn h.lies,by let:=h.c6;lia,h.look⟩
inductive Ye(K:FR)(CL CK CB CE fO:Addr)(vs:ay)(H:Hp)(Q:VK)(E:XK):Prop
 |mk (l:vO) (ap:Addr) (bY:LI) (_:vs=[.ref l.a,.ref ap]) (_:wg CL CK H l) (_:ä ap (iv bY)) (_:bY.L<=66000) (_:(∀x,lQ l.name Ô bY=Α x->∀H' b,ai H H'->rB.m b=x->zq fO CE H' b->Ik Ô Þ->Q Çz H')) (_:(lQ l.name Ô bY=Β->No E CB H))
section
variable{P:Pg}{w:Wd}{K:FR}{mg:MG}{base:Heap}{CK CL CS N CV CP CB CE fO:Addr}{C:Cs}
def Bx:bC ["locker","text","lines","name","numbers","entries","line"] ["locker","text"] (ba MW):=cg
def amk{f:Addr}{fd:FD}(F:br K "read_book" "read_book" MW f fd)(X:Ğ "NoBook" CB N)(TL:jt K CL ["name","kinds"])(tL:mg "len"=Β)(cT:Cn mg "TITLE_LINES" (.int 2))(cM:Cn mg "MOST_ENTRIES" (.int 2048))(dW:Ç 2 "whole_lines" ["text"] (NW K)) (dN:Ç 4 "name_behind" ["title","line"] (NV K)) (dU:Ç 1 "numbers_of_signs" ["kinds"] (XY CK)) (dE:Ċ Ē 3 "read_entry" ["line","numbers"] (Pn K CB CE))(dO:Ç 1 "are_in_order_books" ["entries"] (X8 CE)) (dC:Ç 5 "can_be_shown" ["kinds","entries"] (Yb CK CE)) (dB:Ā "Book" fO ["name","entries"]):
  aZ P w K mg base Ē 6 f fd ["locker","text"] (Ye K CL CK CB CE fO):=by
 let(fE,fdE,GE,mE,kE,bE):=dE;refine F.qL Bx Â;let(l,ap,M,rfl,hL,hP,hl,k1,k2):=h;let Nv:eS 3 _:=hr.mono Ñ;refine⟨_,aB (cf 2 Bx.nd (bx (hr:=hr) dW Ĺ))
  (aB (dj (PW.pt (pw_or Çe (pw_or1 (qB (adb yA yA (cu cT) ā (d9 pK (cu cT) (cu cM))))))) Ý dQ)
  (aB (cf 3 Bx.nd (bx (hr:=hr) dN (ae FE (ae Ád af))))
  (aB (dj (PW.pt (pw_or (pH (rR ö)) (pw_or1 (cw (F2 hr.units) (bx (hr:=hr) dN (ae FE (ae Ád af))) ÿ (bU _))))) Ý dQ)
  (aB (cf 4 Bx.nd (bx (hr:=hr) dU Ãi))
  (aB (UX (i:=5) (own:=[("line",6)]) (g:=qC 6) (tt:=CO) (te:=g8 (Pn K CB CE) [] E (a9 (ax 6) (a9 Ãt dq))) rfl yM Bx.nd rfl rfl Ð (dX (wW wY å (wV (cu cT)) wU)) Ê
   (λ_ _ _ _ _=>cZ 6 Bx.nd) Ò (λ_ _ _ _ _=>nH GE Nv rfl mE kE bE .nil sk (ae Ϫ ŝ)))
  (aB (dj (PW.pt (pw_or (qB (jh (bx (hr:=hr) dO ŀ))) (pw_or1 (qB (jh (bx (hr:=hr) dC (ae ÿ ŀ)))))))
   (Ý) dQ)
  (aA (aV (pV dB hr (ae ö ŀ)))))))))),?_⟩
 apply(_,Á,ap,M,Á,hP,by lia,λH1 v s1 O=>?_);let Oi:∀L,kH M=Α L->∀w∈L,w.L<=100000:=λL e=>by
  delta kH at e;split at e
  .let e:=aQ e;subst e;apply λw hw=>?_;let:=yS 10 M w (B1 _ hw);lia
  .symm
 let el:lQ l.name Ô M=book1 l.name Ô (kH M):=rfl;generalize lQ l.name Ô M=bk at el k1 k2;cases ew:kH M with
 |none=>
  rw[ew] at O el;let O:=O;subst O;exact(_,Á,_,Á,lp (gc ((k2 el).go s1)))
 |some L=>
  let nX:=Oi L ew;rw[ew] at O el;let(p,qs,rfl,l5,hp,qY,fr):=O;let uj:=qY.len;apply(_,Á,_,Á,oG ⟨_,Á,p,_,Á,.inl (aa.of hp),?_⟩);rw[ak,uj];refine⟨_,_,Á,Á,_,Á,a0 ū ū⟩
  case' refine_2=>
   let h1:¬(2:Int)<=((L.L:Nat):Int):=À h1
   apply(_,Á,lp (gc ((k2 (el.R ?_)).go s1)))
   match L,h1 with
   |[],_=>rfl
   |[_],_=>rfl
   |a::b::c,h1=>exact absurd (by simp only[dg];lia) h1
  simp at h1;obtain⟨la,lb,r,rfl⟩:∃a b c,L=a::b::c:=by
   match L,h1 with
   |[],h1=>exact absurd h1 Ä
   |[_],h1=>exact absurd h1 Ä
   |a::b::c,_=>exact(a,b,c,Á)
  cases qY with
  | @cons q l0 qs0 r0 hq qY=>
  cases qY with
  | @cons q2 l2 qs r2 t9 wz=>
  let wz:eU H1 qs r:=wz;let uj:=wz.len;refine⟨_,_,Á,Á,_,_,Á,Á,_,Á,a0 Àw Àw⟩
  .let h2:¬r.L<=2048:=by
    grind
   exact gc ((k2 (el.R (ag h2))).go s1)
  let h2:r.L<=2048:=by
   grind
  let el:=el.R (ah h2);apply⟨_,Á,p,_,0,V.ref q,Á,Á,aa.of hp,fZ (j:=0) Á,"book",q,la,Á,by decide,aa.of hq,nX la Ä,λH3 vn s3 Z=>?_⟩;let lE:=s1.R s3;generalize fJ (codes "book") la=nb at Z el;cases nb with
  |none=>
   let Z:=Z;subst Z;exact(_,Á,_,Á,lp (gc ((k2 el).go lE)))
  |some nm=>
  let(an,rfl,Hm,nG):=Z;apply⟨_,Á,_,Á,oG ⟨_,Á,p,_,1,V.ref q2,Á,Á,aa.of (s3 _ _ hp),fZ (j:=1) Á,"for",q2,lb,Á,by decide,aa.of (s3 _ _ t9),nX lb Ä,λH4 vf s4 Y=>?_⟩⟩;let mf:=lE.R s4;let L4:=hL.E mf;apply(_,Á,aY (A9 L4.lies) TL.1 (TL.2 _ Ä) (ai0 l) ?_);let Im:H4 l.nm=Α (.lst (iv l.name)):=L4.lies (l.nm,_) (by simp[ui]);generalize fJ (codes "for") lb=nf at Y el;obtain⟨d,fW,df,iK⟩:∃d,Dp K H4 vf d/\SeqAt.shaped d=true/\PyData.eqv d (.list (l.name.M PyData.int))=decide (nf=Α l.name):=by
   cases nf with
   |none=>
    let Y:=Y;subst Y;exact(_,.aO,Á,Á)
   |some x=>
    let(c,rfl,_,hc):=Y;apply(_,.lst (aa.of hc) (qN x),shaped_ints _,?_);show PyData.eqvAll _ _=_;rw[xn];simp
  apply(d,_,fW,.lst (aa.of Im) (qN _),df,shaped_ints _,_,Á,?_);rw[iK];apply a0 (λW=>?_) (λW=>?_)
  .simp at W;exact gc ((k2 (el.R (ag W))).go mf)
  simp at W;let el:=el.R (ah W);apply(_,Á,aY (A9 L4.lies) TL.1 (TL.2 _ Ä) (DJ l) ⟨l.kl,l.kinds,Á,L4.ks,λH5 pn n5=>?_⟩);let uf:=mf.R n5.1;let hp5:=n5.1 _ _ (s4 _ _ (s3 _ _ hp));apply(_,Á,_,Á,p,_,Á,aa.of hp5,λc hc=>?_);rw[show pN ((q::q2::qs).M V.ref) (some 2) none=qs.M V.ref from(DM _ (i:=2) Ä).R rfl];let s6:=aG (o:=.lst Äu) hc;let jL:(upd H5 c Ĕ) c=Α Ĕ:=aq;generalize upd H5 c Ĕ=H6 at s6 jL;let yX:=uf.R s6;let amm:=wz.E (((s3.R s4).R n5.1).R s6);let amn:=s6 _ _ n5.2.2;refine⟨c,Á,⟨_,aa.of jL⟩,λD hD=>fV (K:=K) (a:=c) (xs:=qs.M V.ref) (cy H6 D λi y ns=>∃b:bI,(∀z,r[i]? =Α z->iP Ô z=Α b.m)/\y=.ref b.a/\ns=ql CE b) Ď
     (λi H7 _ f=>aa.of (f.E _ _ jL)) (λi y H7 hi f=>?_) (λH7 f=>?_)⟩
  .rw[bz] at hi;cases eq:qs[i]? with
   |none=>symm
   |some qi=>
    rw[eq] at hi;let ey:=aQ hi;subst ey;let dm:=(bo.mp eq).1;let(q',_,J,h'):=amm.at (j:=i) Å;rw[bz,eq] at J;let J:=aQ J;injection J with J;subst J;let rZ:r[i]? =Α (r.D i []):=by
     symm
    let nZ:=bj rZ;apply(Á,eJ ⟨_,Á,_,Á,qi,pn,l.kinds.M au.m,r.D i [],Á,aa.of (f.E _ _ h'),nX _ (aK _ (aK _ nZ)),f.E _ _ amn,λm em H8 en U ek yJ qH=>?_,λen=>?_⟩)
    .apply f.step hD Î U ⟨en,λz hl=>?_,Á,Á⟩ yJ λx hx e=>f.has (by rw[<-e];exact qH x hx);symm
    .exact(k2 (by rw[el,amf nZ en];rfl)).go (yX.R f.E)
  .let(ys,s7,xS,Yg,fl):=f.end;rw[ak] at Yg;let(es,e1,r1,l1):=y6 (v:=λb:bI=>V.ref b.a) (nd:=ql CE) (R:=λi b=>∀z,r[i]? =Α z->iP Ô z=Α b.m) fl;subst e1;rw[ak] at Yg;let Bm:∀(i:Nat)(b:bI),es[i]? =Α b->∃z,iP Ô z=Α b.m:=λi b hb=>by
    grind
   let ees:jv Ô r=Α (es.M bI.m):=amg Å λi z m h1 h2=>by
    grind
   rw[ees] at el;let emr:(es.M bI.m).M (·.1)=es.M bI.row:=by
    rw[cj];rfl
   let el:bk=if (Bu Ãw &&(es.M bI.row).all (lO Ô))=true then some (nm,es.M bI.m) else none:=by
    rw[<-emr];exact el
   let vQ:=yX.R s7;let Pu:zp CE H7 D es:=⟨xS,l1,by simp_all⟩;let wj:Ik Ô Ãw:=by
    apply(λrow By=>?_,λrow By s hs=>?_,λrow By s hs=>?_)
    all_goals
     let(b,hb,rfl):=bG.mp By;let(i,hi,e):=nr hb;let(z,J):=Bm i b (by rw[<-e];exact cI hi);let:=Pt J
    .symm
    .symm
    .symm
   apply(_,Á,D,es,Á,Pu,λH8 U=>⟨_,Á,a0 (λho=>?_) (λho=>?_)⟩)
   .simp at ho;rw[ho,mG,ag Ñ] at el;exact gc ((k2 el).go (vQ.R U))
   simp at ho;let Yh:=vQ.R U;let L8:=hL.E Yh;refine⟨_,Á,aY (A9 L8.lies) TL.1 (TL.2 _ Ä) (DJ l) ⟨_,Á,l.kl,l.kinds,D,es,Á,L8.ks,L8.ms,Pu.E U,wj,λe he=>L8.sh [e.row] (λr hr s hs=>by
     obtain rfl:r=e.row:=À hr
     exact wj.sg _ (bG.mpr ⟨e,he,Á⟩) s hs),λH9 s9=>⟨_,rfl,a0 ģ ģ⟩⟩⟩
   .let hd:(es.M bI.row).all (lO Ô)=false:=by simpa using hd
    rw[hd,zV,ag Ñ] at el;exact gc ((k2 el).go (Yh.R s9))
   let hd:(es.M bI.row).all (lO Ô)=true:=À hd
   rw[ho,hd,JK,ah rfl] at el;let xT:=U.R s9;exact(_,Á,_,Á,xE Á λx dx Ha hx gU aL ea sa=>(k1 _ el Ha ⟨x,dx,an,D,nm,es⟩ ((vQ.R xT).R sa) Á ⟨ea,sa _ _ (xT _ _ (s7 _ _ (s6 _ _ (n5.1 _ _ (s4 _ _ nG))))),Pu.E (xT.R sa)⟩ wj))
end
def oh(rows:bf)(i:Nat):Nat:=(rows.D i []).L
def Bz(rows:bf)(a b:Bool)(n:Nat)(i:Nat):Bool:=decide (oh rows i=n)||((a||b)&&decide (n<oh rows i))
def sP(rows:bf)(g:iV):LN:=(List.range rows.L).J (Bz rows g.above g.below g.flags.L)
inductive Pw(C:Cs)(fO CE:Addr)(vs:ay)(H:Hp)(Q:VK)(E':XK):Prop
 |mk (b:rB) (g:cz) (_:vs=[.ref b.a,.ref g.a]) (_:zq fO CE H b) (_:Lies H Çi) (_:∀H' p,Ů p (.lst (iv (nv (sP Þ g.m))))->Q Ĝ H')
abbrev Yi(K:FR):ay->Hp->VK->Prop:=λxs H Q=>∃p ys,xs=[.ref p]/\(ä p ys\/bw K H p ys)/\Q (.int ((ys.L:Nat):Int)) H
section
variable{P:Pg}{w:Wd}{K:FR}{mg:MG}{base:Heap}{CK CL CS N CV CP CB CE fO:Addr}{C:Cs}
def zr:bC ["book","glimpse","seen","may_be_longer","lengths","entry","number","length"] ["book","glimpse"] (ba M6):=cg
def amr(F:br K "entries_in_doubt" "entries_in_doubt" M6 f fd)(z:lx K C)(Y:jt K fO ["name","entries"])(TE:jt K CE ["row","meaning"])(tL:mg "len"=Β)(tE:mg "enumerate"=Β):Ë 1 f fd ["book","glimpse"] (Pw C fO CE):=by
 refine F.ok zr Â;let(b,g,rfl,J,M,k):=h;refine⟨_,aB (cf 2 zr.nd (c8 gv Ð tL PySem.boot_len (ae Åh af)))
  (aB (cf 3 zr.nd (Kd Ň (rS Ň)))
  (aB (tQ (i:=4) (own:=[("entry",5)]) (te:=rY (Yi K) (a9 (fj K (ax 5) "row") dq)) rfl zr.nd rfl rfl Ð (dX ÿ) Ê
   (λ_ _ _ _ _=>cZ 5 zr.nd) Ò (λ_ _ _ _ _=>c8 gv Ð tL PySem.boot_len (ae (aX Ãd rfl) af)))
  (aA (aV (eA (own:=[("number",6),("length",7)]) (g:=g2 K 6 7) (tt:=Kb (mX (bQ pL Æj ř)) (FF (tB Ŀ) (mX (bQ (gE λi j=>.bl (decide (i>j))) Æj ř)))) (te:=ax 6) rfl zr.nd
   (jO Ð tE ŝ) Ê
   (λ_ _ _ _ _=>iA 6 7 zr.nd)
   (λ_ _ _ _ _=>oE (PW.pt (pw_or (cw iB Èe å (bU _)) (pw_or1 (PW.pt (pw_and (jh ö) (pw_and1 (cw rW Èe å (bU _))))))))) (λ_ _ _ _ _=>pv 6)))))),?_⟩
 let hf:=J.e.c6;apply(_,Á,aY M.ga z.cG z.vM (vL g) ⟨g.l,_,Á,.inl (aa.of M.fl),?_⟩);dsimp only;rw[ak];apply Lk g.above g.below (λK q=>⟨_,Á,aY M.ga z.cG z.Np (Nm g) q⟩) (λ_ K q=>⟨_,Á,aY M.ga z.cG z.Nq (Nn g) q⟩) ?_;apply(_,Á,aY J.a Y.1 (Y.2 _ Ä) (Yd b) ⟨b.el,Á,⟨_,aa.of J.e.a⟩,λD hD=>fV (K:=K) (a:=b.el) (xs:=b.es.M λe=>V.ref e.a) (fe H D λi=>((oh Þ i:Nat):Int)) Áa (λi H' _ f=>aa.of (f.1 _ _ J.e.a)) ą (λH1 f=>?_)⟩)
 .let(e,he,rfl):=gQ hi;let Z:=(bo.mp he).1;let hl:=(J.e.l e (bj he)).E f.1;apply(Á,eJ ⟨_,Á,aY (Ey hl) TE.1 (TE.2 _ Ä) (Ew e) ⟨e.rw,_,Á,.inl (aa.of (Ez hl)),?_⟩⟩);apply fe.step hD Î f Ĥ ?_;ext oh;symm
 .let hd:=f.2;rw[ak] at hd;let s1:=f.1;refine⟨_,Á,D,_,Á,aa.of hd,λW O=>mh (K:=K) (a:=D) (xs:=iv ((List.range b.es.L).M λi=>((oh Þ i:Nat):Int))) (ng H1 W (Bz Þ g.above g.below g.flags.L)) (ng.zero O) (λi H' _ f=>aa.of (f.1 _ _ hd)) Âb Àx⟩
  .let Z:=(bo.mp hi).1;rw[dw,ak,ik] at Z;let ev:v=.int ((oh Þ i:Nat):Int):=by
    symm
   subst ev;let U:ai H' (Ϩ (.tup [.int (i:Nat),.int ((oh Þ i:Nat):Int)])):=aG hT;refine è;generalize upd H' Tt (.tup [.int (i:Nat),.int ((oh Þ i:Nat):Int)])=H4 at U;refine or_val (decide (oh Þ i=g.flags.L)) ((g.above||g.below)&&decide (g.flags.L<oh Þ i)) (λK q=>⟨_,Á,_,Á,Á,_,Á,by rw[nF];exact q⟩)
    (λ_ K q=>and_val (g.above||g.below) (decide (g.flags.L<oh Þ i)) (λK q=>⟨_,rfl,_,rfl,q⟩) (λ_ K q=>⟨_,rfl,_,rfl,_,_,rfl,rfl,_,rfl,?_⟩) q) (a0 Ï Ï)
   .symm
   .exact(_,Á,f.yes O (by omega) U hc)
   .exact f.no U hc
  .let h3:=f.2;rw[dw,ak,ik] at h3;apply k H3 W ⟨s1.R f.1,s1.free O,?_⟩;rw[h3];ext sP cz.m;simp
end
def iw(l:LN):Nat:=l.foldl (λa b=>a*b) 1
inductive Yj(vs:ay)(H:Hp)(Q:VK)(E':XK):Prop
 |mk (p:Addr) (l:LN) (_:vs=[.ref p]) (_:H p=Α (.lst Èp)) (_:(∀n∈l,n<=100000)) (_:Q (.int ((iw l:Nat):Int)) H)
def uH(s:Nat):LN:=if s=2 then [0,1] else [s]
inductive Yk(C:Cs)(vs:ay)(H:Hp)(Q:VK)(E':XK):Prop
 |mk (p:dZ) (_:vs=[.ref p.a]) (_:Lies H Áx) (_:∀H' q,Ů q (.lst (iv (nv Èl)))->Q Åt H')
section
variable{P:Pg}{w:Wd}{K:FR}{mg:MG}{base:Heap}{CK CL CS N CV CP CB CE fO:Addr}{C:Cs}
def Io:bC ["numbers","whole","number"] ["numbers"] (ba M7):=cg
def ams(F:br K "product" "product" M7 f fd):Ë 1 f fd ["numbers"] Yj:=by
 refine F.ok Io Â;let(p,l,rfl,j,q,k):=h;refine⟨_,aB (cf 1 Io.nd bc)
  (aB (Į Åe (cZ 2 Io.nd) (aA (cf 1 Io.nd (d9 SJ á å))))
  Âv),?_⟩
 apply(_,Á,p,Á,⟨_,aa.of j⟩,pJ (K:=K) (a:=p) (xs:=iv (nv l)) (λi σ H'=>∃v,σ=[some Ĝ,some (.int ((iw (l.take i):Nat):Int)),v]/\H'=H) ⟨none,Á,Á⟩ (λi σ H' _ ⟨_,_,e⟩=>by rw[e];exact aa.of j) ?_ ?_)
 .rintro i x σ H' hi ⟨v,rfl,rfl⟩;let(z,hz,rfl):=jr hi;let J:=q z (bj hz);apply(_,Á,_,Á,_,_,Á,Á,.inr ⟨by lia,by lia⟩,some (.int ((z:Nat):Int)),?_,Á);rw[take_snoc hz];ext iw;simp
 .rintro σ H' ⟨v,rfl,rfl⟩;refine Ę;symm
def amt:bC ["plate"] ["plate"] (ba M9):=cg
def amu(F:br K "sides_of" "sides_of" M9 f fd)(T:lx K C)(J:Cn mg "FRONT" œ)(cB:Cn mg "BEHIND" Ŝ)(M:Cn mg "UNKNOWN_SIDE" (.int 2)):Ë 1 f fd ["plate"] (Yk C):=by
 refine F.ok amt Â;let(p,rfl,z,k):=h;apply(_,aA (aV (tI (cw iB ĺ (cu M) (bU _)) (dv (ae (cu J) Ϸ)) (dv (ae ĺ af)))),?_);refine⟨_,Á,aY z.pl T.cP T.Nr (VG p) Ļ⟩;rw[show V.int 2=V.int ((2:Nat):Int) from rfl,nF];let k:=k;delta uH at k;refine a0 Ï Ï
 .rw[ah Å] at k;exact(by show 2<=sizeLine;decide,λq j=>k _ q ⟨aG j,j,aq⟩)
 .rw[ag Å] at k;exact(_,Á,aY z.pl T.cP T.Nr (VG p) ⟨by show 1<=sizeLine;decide,λq j=>k _ q ⟨aG j,j,aq⟩⟩)
end
def qm(rows:bf)(c:LN):bf:=rows.flatMap λrow=>c.M λn=>row++[n]
def mv(cs:bf):bf:=cs.foldl qm [[]]
def wk(cs:bf):bf:=if cs.Y []=true then [] else mv cs
theorem amv(l:LN)(a:Nat):l.foldl (λa b=>a*b) a=a*iw l:=by
 induction l generalizing a with
 |nil=>simp[iw]
 |cons x l j=>
  ext iw;grind
def Px(a b:LN):iw (a++b)=iw a*iw b:=by
 rw[<-amv];ext iw;simp
theorem amw(h:∀n∈l,1<=n):1<=iw l:=by
 induction l with
 |nil=>exact bA _
 |cons x l z=>
  let j:=h x Ä;let h2:=z λn q=>h n (aK _ q);show 1<=iw ([x]++l);rw[Px];let e:iw [x]=x:=Nat.one_mul x;rw[e];exact Nat.mul_pos j h2
theorem Py(rows:bf)(c:LN):(qm rows c).L=rows.L*c.L:=by
 ext qm;induction rows with
 |nil=>simp
 |cons r rows j=>rw[z7,j4,j,ak,dg,Nat.succ_mul,abx]
def Ip(cs:bf)(c:LN):mv (cs++[c])=qm (mv cs) c:=by
 ext mv;simp
def Yl(cs:bf):(mv cs).L=iw (cs.M List.length):=by
 refine snoc_ind (P:=λcs=>(mv cs).L=iw (cs.M List.length)) Á Ϙ cs;rw[Ip,Py,ih,bH,Px];congr 1;exact(Nat.one_mul _).symm
def amx(h:∀n∈l,1<=n)(i:Nat):iw (l.take i)<=iw l:=by
 let j:1<=iw (l.drop i):=amw λn q=>h n (abi q);let h2:iw l=iw (l.take i)*iw (l.drop i):=by rw[<-Px,RS]
 rw[h2];exact Nat.le_mul_of_pos_right _ j
theorem amy{H:Hp}{ls:List dc}:(∀x∈ls,H x.a=Α ό)->eU H (ls.M dc.a) (ls.M λx=>nv x.ns):=by
 induction ls with
 |nil=>exact @λ_=>.nil
 |cons x ls j=>
  intro h;exact .cons (h x Ä) (j λz hz=>h z (aK _ hz))
def Pz(cs:bf):∀row∈mv cs,row.L=cs.L:=by
 apply snoc_ind (P:=λcs=>∀row∈mv cs,row.L=cs.L) (λrow h=>?_) (λl x j row h=>?_) cs
 .let:row=[]:=by simpa [mv] using h
  rw[this];rfl
 .rw[Ip] at h;delta qm at h;let(r,hr,h):=jg.mp h;let(n,_,rfl):=bG.mp h;rw[j4,j r hr,j4];rfl
inductive Ym(vs:ay)(H:Hp)(Q:VK)(E':XK):Prop
 |mk (y:cA) (_:vs=[.ref y.a]) (_:aU H Çl) (_:y.ls.L<=100) (_:(∀x∈y.ls,x.ns.L<=100000)) (_:(y.m.Y []=false->iw Ź<=1024)) (_:∀H' z,ai H H'->cA.m z=wk y.m->aU H' (e9 z)->i9 H (e9 z)->Q Åk H')
section
variable{P:Pg}{w:Wd}{K:FR}{mg:MG}{base:Heap}{CK CL CS N CV CP CB CE fO:Addr}{C:Cs}
def xU:bC ["choices","rows","choice","longer","row","number"] ["choices"] (ba M8):=cg
inductive RwI(y:cA)(H:Hp)(i:Nat)(σ:L2.St)(H':Hp):Prop
 |mk (z:cA) (v2 v3 v4:Option V) (_:σ=[some Áe,some Åk,v2,v3,v4,none]) (_:ai H H') (_:aU H' (e9 z)) (_:i9 H (e9 z)) (_:z.m=mv Ÿ)
inductive RwJ(y z:cA)(c:dc)(g:Addr)(H3 H:Hp)(j:Nat)(σ:L2.St)(H':Hp):Prop
 |mk (v4:Option V) (ls:List dc) (_:σ=[some Áe,some Åk,some (.ref c.a),some (.ref g),v4,none]) (_:ai H3 H') (_:aU H' (e9 ⟨g,ls⟩)) (_:(∀x∈ls,x.a≠g)) (_:(∀x∈ls,i9 H (lsN x))) (_:ls.M dc.ns=qm (z.m.take j) c.ns)
def amB{f:Addr}{fd:FD}(F:br K "all_rows" "all_rows" M8 f fd):Ë 1 f fd ["choices"] Ym:=by
 refine F.ok xU Â;let(y,rfl,hy,XF,tP,il,k):=h;let hu:A.units+3+128<cLine:=by let:=hr.un;exact qy Ä this
 refine⟨_,aB (dj (cw (Li hu) Ĩ Ø (by with_unfolding_all rfl)) (aA (aV Ĩ)) dQ)
  (aB (cf 1 xU.nd (dv Åg))
  (aB (Į Åe (cZ 2 xU.nd) (aB (cf 3 xU.nd Ĩ)
   (aB (Į Åd (cZ 4 xU.nd) (aA (pI (ó ö (ae
    (eA (own:=[("number",5)]) (te:=bQ Tr Ãt (Am Åi)) rfl xU.nd (dX å) Ê
     (λ_ _ _ _ _=>cZ 5 xU.nd) Ò (λ_ _ _ _ _=>d9 Ts ę (dv ŀ))) af)))))
   (aA (cf 1 xU.nd ö)))))
  Âv)),?_⟩
 let rl:=ju hy;apply(di _,λl qM=>?_);let J:ai H (ϑ ã):=aG qM;let jM:(ϑ ã) l=Α ã:=aq;generalize upd H l ã=H1 at J jM;let amC:=amy λx hx=>J _ _ (nc hy hx);let amD:H1 y.a=Α (.lst ((y.ls.M dc.a).M V.ref)):=by
  rw[cj];exact J _ _ rl
 apply(_,Á,y.a,_,_,.list [],Á,aa.of amD,XU amC,.lst (aa.of jM) .nil,λd hd=>?_,Á,_,Á,?_)
 .let(x,_,rfl):=bG.mp hd;exact shaped_ints x
 rw[any_empty];let l9:(y.ls.M λx=>nv x.ns).Y []=y.m.Y []:=by
  rw[qx,B4,B4];ext cA.m;simp
 rw[l9];refine a0 Ï Ï
 .apply(di _,λp hp=>?_);apply k _ ⟨p,[]⟩ (J.R (aG hp)) ?_ (Bw aq Ä) (DZ (J.free hp) Ä);ext wk;rw[ah hc];rfl
 let hc:y.m.Y []=false:=À hc
 let amE:=il hc;let amF:∀n∈y.m.M List.length,1<=n:=λn hn=>by
  grind
 let Ec:∀i,(mv Ÿ).L<=1024:=λi=>by
  rw[Yl,abj];exact gn (amx amF i) amE
 let ek:wk y.m=mv y.m:=by ext wk;rw[ag (by assumption)]
 rw[ek] at k;apply(di _,λe he=>⟨by show 1<=sizeLine;decide,λr o5=>?_⟩);let hre:r≠e:=λz=>by rw[z,aq] at o5;cases o5
 let s2:ai H1 (upd (upd H1 e ã) r (.lst [.ref e])):=(aG he).R (aG o5);let Yn:aU (upd (upd H1 e ã) r (.lst [.ref e])) (e9 ⟨r,[⟨e,[]⟩]⟩):=Bw aq λx hx=>by
  obtain rfl:x=_:=À hx
  rw[az hre.symm,aq];rfl
 generalize upd (upd H1 e ã) r (.lst [.ref e])=H2 at s2 Yn;let fA:=J.R s2;refine⟨_,Á,y.a,Á,⟨_,aa.of (fA _ _ rl)⟩,pJ (K:=K) (a:=y.a) (xs:=y.ls.M λx=>V.ref x.a) (RwI y H)
  ⟨⟨r,[⟨e,[]⟩]⟩,none,none,none,rfl,fA,Yn,DZ (J.free ((aG he).free o5)) ϩ,rfl⟩ (λi σ H' _ h=>(by let(_,_,_,_,_,M):=h;exact aa.of (M _ _ rl))) ?_ ?_⟩
 .obtain rfl:x=_:=by simpa using hx
  exact λw hw=>(by simp only[lsN,iS] at hw;subst hw;exact J.free he)
 .rintro i x σ U hi ⟨z,v2,v3,v4,rfl,M,hz,EB,Y⟩;let(c,pQ,rfl):=gQ hi;let qJ:=bj pQ;let G4:=M _ _ (nc hy qJ);let gH:=tP c qJ;let sQ:y.m[i]? =Α c.ns:=by ext cA.m;rw[bz,pQ];rfl
  let Yo:mv (y.m.take (i+1))=qm z.m c.ns:=by rw[take_snoc sQ,Ip,Y]
  let CM:=Ec (i+1);rw[Yo] at CM;apply(di _,λg PB=>?_);let s4:ai U (upd U g ã):=aG PB;let hgg:(upd U g ã) g=Α ã:=aq;refine⟨_,Á,z.a,Á,⟨_,aa.of (s4 _ _ (ju hz))⟩,pJ (K:=K) (a:=z.a) (xs:=z.ls.M λx=>V.ref x.a) (RwJ y z c g U H)
   ⟨v4,[],rfl,s4,Bw hgg Ä,by simp,by simp,by rw[List.take_zero];rfl⟩ (λj σ H' _ h=>(by let(_,_,_,O):=h;exact aa.of (O _ _ (ju hz)))) ?_ ?_⟩
  .rintro j x σ H4 hj ⟨v4,ls,rfl,O,Z,AS,Yp,Ir⟩;let(r,Yq,rfl):=gQ hj;let nZ:=bj Yq;let avi:r.ns.L<=1000:=by
    let W:r.ns∈z.m:=by ext cA.m;exact bG.mpr ⟨r,nZ,Á⟩
    rw[Y] at W;let h2:=Pz _ _ W;grind
   let HH:=O _ _ (nc hz nZ);let Yr:=O _ _ G4;let Ys:=ju Z;apply(_,Á,.inl ⟨Á,_,aa.of Ys⟩,_,Á,c.a,Á,⟨_,aa.of Yr⟩,λD hD=>fV (K:=K) (a:=c.a) (xs:=iv (nv c.ns)) (jR H4 D λi=>r.ns++[c.ns.D i 0]) Ď (λi H' _ f=>aa.of (f.E _ _ Yr)) (λn v H' hi f=>?_) (λH5 f=>?_))
   .let(m,hm,rfl):=jr hi;let Bl:=(bo.mp hm).1;apply(Á,eJ ⟨_,Á,_,Á,(by show 1<=sizeLine;decide),λq hq=>⟨r.a,q,_,_,Á,Á,(aG hq) _ _ (f.E _ _ HH),aq,?_,λq2 t9=>?_⟩⟩)
    .rw[dw,gO];exact tm (f7 (by grind))
    .apply jR.step hD Î f ((aG hq).R (aG t9)) ((aG hq).free t9) ?_;rw[aq,getD_at hm];simp
   .let(d,hda,s6,Yt,nj,LC):=jR.end hD f;rw[dw,gO] at Yt;let hg5:=s6 _ _ Ys;let uA:∀x∈d.ls,x.a≠g:=λx hx z=>by
     let W:=LC (x.a,_) (by ext e9;exact aK _ (jg.mpr ⟨x,hx,by simp[lsN];rfl⟩));symm
    let amK:d.m=c.ns.M λn=>r.ns++[n]:=by
     rw[Yt];exact vU (l:=c.ns) (g:=λn=>r.ns++[n]) (d:=0)
    let et:qm (z.m.take (j+1)) c.ns=ls.M dc.ns++d.m:=by
     let e1:z.m[j]? =Α r.ns:=by ext cA.m;rw[bz,Yq];rfl
     rw[take_snoc e1,Ir,amK];ext qm;simp
    apply(g,D,_,_,Á,Á,hg5,(by rw[<-hda];exact ju nj),?_,_,ls++d.ls,Á,fc (O.R s6) PB,Bw ?_ ?_,?_,?_,?_)
    .let W:=b9 List.length et;rw[j4,ak,ie] at W;let h2:(qm (z.m.take (j+1)) c.ns).L<=1024:=by
      rw[Py];rw[Py] at CM;apply gn (at5 _ ?_) CM;grind
     rw[ak,ak];exact tm (f7 Î)
    .rw[aq,bH]
    .intro x hx;rcases fu.mp hx with hx|hx
     .rw[az (AS x hx)];exact s6 _ _ (nc Z hx)
     .rw[az (uA x hx)];exact nc nj hx
    .grind
    .intro x hx;rcases fu.mp hx with hx|hx
     .symm
     .exact λw hw=>(M.R O).free (LC w (by ext e9;exact aK _ (jg.mpr ⟨x,hx,hw⟩)))
    .rw[bH,et];rfl
  .rintro σ H4 ⟨v4,ls,rfl,O,Z,AS,Yp,Ir⟩;apply(_,Á,⟨g,ls⟩,_,_,_,Á,M.R O,Z,DZ (M.free PB) Yp,?_);rw[ak,<-ie,i4] at Ir;rw[Yo];exact Ir
 .rintro σ U ⟨z,v2,v3,v4,rfl,M,hz,EB,Y⟩;rw[ak,<-ie,i4] at Y;exact(_,Á,k U z M Y hz EB)
end
theorem amL(sames:LN)(l:cE):∀(st:iD)(x:LN×iD),oY sames st l=Α x->x.1.L=l.L:=by
 induction l with
 |nil=>
  intro st x h;delta oY at h;rw[<-aQ h];rfl
 |cons p r j=>
  intro st x h;delta oY at h;split at h
  .cases h
  .split at h
   .cases h
   .rename_i y e;rw[<-aQ h];show y.1.L+1=r.L+1;rw[j _ _ e]
theorem Yu(sames:LN)(l:List cE):∀(st:iD)(x:bf×iD),n9 sames st l=Α x->x.1.M List.length=l.M List.length:=by
 induction l with
 |nil=>
  intro st x h;delta n9 at h;rw[<-aQ h];rfl
 |cons p r q=>
  intro st x h;delta n9 at h;split at h
  .cases h
  .rename_i z j;split at h
   .cases h
   .rename_i y e;rw[<-aQ h,a7,a7,q _ _ e,amL sames p _ _ j]
def Yv{ms:aI}{rows hs:bf}(h:o4 ms rows=Α (some hs)):hs.M List.length=rows.M List.length:=by
 delta o4 at h;split at h
 .symm
 .split at h
  .symm
  .cases e:n9 ı Çc Äc with
   |none=>symm
   |some x=>
    rw[e] at h;let h:=aQ (aQ h);rw[<-h,Yu _ _ _ _ e];ext oa gB;rw[cj];apply yl;intro i;rw[bz,bz,aby,bz];cases er:rows[i]? with
    |none=>symm
    |some r=>
     rw[JT.mpr (show rows[i]? =Α (r,r).1/\rows[i]? =Α (r,r).2 from⟨er,er⟩)];ext rk;simp
def amM(cs:bf):∀nums∈mv cs,∀(i n:Nat)(c:LN),nums[i]? =Α n->cs[i]? =Α c->n∈c:=by
 apply snoc_ind (P:=λcs=>∀nums∈mv cs,∀(i n:Nat)(c:LN),nums[i]? =Α n->cs[i]? =Α c->n∈c) (λnums h i n c j h2=>?_) (λl x J nums h i n c j h2=>?_) cs
 .simp at h2
 .rw[Ip] at h;delta qm at h;let(r,hr,h):=jg.mp h;let(m,F,rfl):=bG.mp h;let z:=Pz l r hr;by_cases hi:i<l.L
  .rw[Fj Å] at j;rw[Fj hi] at h2;exact J r hr i n c j h2
  .rw[RC Å] at j;rw[RC Å] at h2;let q:i-l.L=0:=by
    let:=(bo.mp h2).1;simpa using this
   rw[z,q] at j;rw[q] at h2;cases j;cases h2;exact F
def amN{hs rows:bf}(e:hs.M List.length=rows.M List.length){i:Nat}{h r:LN}(j:hs[i]? =Α h)(h2:rows[i]? =Α r):h.L=r.L:=by
 let:=b9 (λl=>l[i]?) e;simp only[bz,j,h2] at this;simpa using this
def sR{α:Type}(H1:Hp)(D:Addr)(l:List α)(q:α->Bool)(g:α->V)(i:Nat)(H:Hp):Prop:=ai H1 H/\H D=Α (.lst (((l.take i).J q).M g))
def sR.zero{α:Type}{H1:Hp}{D:Addr}{l:List α}{q:α->Bool}{g:α->V}(j:H1 D=Β):sR H1 D l q g 0 Đ:=⟨aG j,aq⟩
def sR.yes{α:Type}{H1 H j:Hp}{D:Addr}{l:List α}{q:α->Bool}{g:α->V}{i:Nat}{x:α}{v:V}(z:H1 D=Β)(hi:i<1000000)(f:sR H1 D l q g i H)(s:ai H j)(J:l[i]? =Α x)(h:q x=true)(F:v=g x):lh D (sR H1 D l q g (i+1)) v j:=by
 subst F;apply(_,s _ _ f.2,?_,fc (f.1.R s) z,?_)
 .rw[ak];let:=B3 q (l.take i);rw[iR] at this;exact f7 Î
 .rw[aq,A1 J,ah h,bH];rfl
def sR.no(f:sR H1 D l q g i H)(s:ai H H4)(j:l[i]? =Α x)(h:¬q x=true):sR H1 D l q g (i+1) H4:=by
 apply(f.1.R s,?_);rw[A1 j,ag h,jF];exact s _ _ f.2
theorem amO{α β:Type}{q:α->Option β}{l:List α}{i:Nat}{x:α}(h:l[i]? =Α x):(l.take (i+1)).filterMap q=(l.take i).filterMap q++(match q x with|some y=>[y]|none=>[]):=by
 rw[take_snoc h,abt];congr 1;cases e:q x with
 |none=>simp[e]
 |some y=>simp[e]
structure eK where
 a:Addr
 dx:Addr
 nums:dc
 hs:cA
 sd:dc
def BA(r:eK):List (Str×V):=[("entries",.ref r.nums.a),("hoists",.ref r.hs.a),("sides",.ref r.sd.a)]
def qo(CR:Addr)(r:eK):jo:=(r.a,.ins CR r.dx (BA r))::(lsN r.nums++(e9 r.hs++lsN r.sd))
def Yw{CR:Addr}{r:eK}{p:Addr×HO->Prop}(q:p (r.a,.ins CR r.dx (BA r)))(h2:∀x∈lsN r.nums,p x)(z:∀x∈e9 r.hs,p x)(F:∀x∈lsN r.sd,p x):∀x∈qo CR r,p x:=λx j=>by
 rcases a8.mp j with rfl|j
 .exact q
 .grind
def eK.m(r:eK):LN×bf×LN:=(r.nums.ns,r.hs.m,r.sd.ns)
abbrev Views:=List (Nat×List bf)
def mw(ms:aI)(p:eV):Views:=(uH p.side).M λs=>(s,sI ms p.classes s p.ao)
def sS(J:Views)(j:List iV)(hs:bf):LN:=(J.J λv=>oR hs j v.2).M (·.1)
def jW(rows:bf)(nums:LN):bf:=nums.M λn=>rows.D n []
def uI(ms:aI)(rows:bf)(j:List iV)(J:Views)(nums:LN):Option (LN×bf×LN):=match o4 ms (jW rows nums) with
 |some (some hs)=>if sS J j hs=[] then none else some (nums,hs,sS J j hs)
 |_=>none
def lR(rows:bf)(j:List iV):bf:=j.M (sP rows)
def uJ(rows:bf)(j:List iV):Nat:=iw ((lR rows j).M List.length)
def jc(ms:aI)(rows:bf)(p:eV):List (LN×bf×LN):=(wk (lR rows p.ao)).filterMap (uI ms rows p.ao (mw ms p))
def BB(CR:Addr)(H:Hp)(q:Addr)(rs:List eK):Prop:=H q=Α (.lst (rs.M λr=>V.ref r.a))/\∀r∈rs,aU H Æm
inductive Yx(C:Cs)(CL CK fO CE CR CT:Addr)(vs:ay)(H:Hp)(Q:VK)(E:XK):Prop
 |mk (l:vO) (b:rB) (p:dZ) (_:vs=[.ref l.a,.ref b.a,.ref p.a]) (_:wg CL CK H l) (_:zq fO CE H b) (_:rj C H p) (_:Ik Ô Þ) (_:(uJ Þ p.m.ao<=1024->∀H' q rs,ai H H'->rs.M eK.m=jc Ô Þ p.m->BB CR H' q rs->Q Åt H')) (_:(1024<uJ Þ p.m.ao->No E CT H))
section
variable{P:Pg}{w:Wd}{K:FR}{mg:MG}{base:Heap}{CK CL CS N CV CP CB CE fO CR CT:Addr}{C:Cs}
def oj:bC ["locker","book","plate","choices","glimpse","choice","views","side","readings","numbers","hoists","number","sides","view"] ["locker","book","plate"] (ba M5):=cg
inductive Yy(CR:Addr)(l:vO)(b:rB)(p:dZ)(y:cA)(D3 r:Addr)(H4:Hp)(z:cA)(i:Nat)(σ:L2.St)(H':Hp):Prop
 |mk (v9 zR yQ:Option V) (rs:List eK) (_:σ=[some (.ref l.a),some Çz,some ϭ,some Áe,none,none,some (.ref D3),none,some ϣ,v9,zR,none,yQ,none]) (_:ai H4 H') (_:aU H' (e9 z)) (_:H' r=Α (.lst (rs.M λx=>V.ref x.a))) (_:(∀x∈rs,aU H' (qo CR x)/\∀y∈qo CR x,y.1≠r)) (_:rs.L<=i) (_:rs.M eK.m=(z.m.take i).filterMap (uI Ô Þ ò ż))
def amP{f:Addr}{fd:FD}(F:br K "readings_of" "readings_of" M5 f fd)(X:Ğ "TooMuchInDoubt" CT N)(TC:lx K C)(TL:jt K CL ["name","kinds"])(TB:jt K fO ["name","entries"])(TE:jt K CE ["row","meaning"])(TV:jt K CV ["side","glimpses"])(tL:mg "len"=Β)(cM:Cn mg "MOST_IN_DOUBT" (.int 1024))(dI:Ç 1 "entries_in_doubt" ["book","glimpse"] (Pw C fO CE)) (dP:Ç 1 "product" ["numbers"] Yj) (dV:Ç 4 "view_of" ["kinds","plate","side"] (OE C CK CV)) (dS:Ç 1 "sides_of" ["plate"] (Yk C))(dA:Ç 1 "all_rows" ["choices"] Ym) (dD:Ç 4 "display_told" ["kinds","rows"] (Ia CK)) (dF:Ç 3 "fits" ["hoists","plate","view"] (OL C CV)) (dR:Ā "Reading" CR ["entries","hoists","sides"]):
  aZ P w K mg base Ē 5 f fd ["locker","book","plate"] (Yx C CL CK fO CE CR CT):=by
 refine F.qL oj Â;let(l,b,p,rfl,hL,hB,hP,wj,k1,k2):=h;refine⟨_,aB (tQ (i:=3) (own:=[("glimpse",4)]) (te:=g8 (Pw C fO CE) [] E0 (a9 ž (a9 Ãt dq))) Á oj.nd Á Á Ð (dX (aX å Á)) Ê
   (λ_ _ _ _ _=>cZ 4 oj.nd) Ò (λ_ _ _ _ _=>bx dI (ae á ŝ)))
  (aB (dj (cw rW (bx dP (ae (eA (own:=[("choice",5)]) (te:=rY (Yi K) Åi) rfl oj.nd (dX ö) Ê
   (λ_ _ _ _ _=>cZ 5 oj.nd) Ò (λ_ _ _ _ _=>c8 gv Ð tL PySem.boot_len ŀ)) af)) (cu cM) (bU _)) Ý dQ)
  (aB (tQ (i:=6) (own:=[("side",7)]) (te:=g8 (OE C CK CV) [] E0 (a9 (fj K Ų "kinds") (a9 ř (a9 Æj dq)))) rfl oj.nd rfl rfl Ð (dX (bx dS ł)) Ê
   (λ_ _ _ _ _=>cZ 7 oj.nd) Ò (λ_ _ _ _ _=>bx dV (ae ÿ (ae å Âu))))
  (aB (cf 8 oj.nd Ĩ)
  (aB (i6 (UD yM) rfl (dX (bx dA ĳ)) (cZ 9 oj.nd)
   (aB (cf 10 oj.nd (bx dD (ae ÿ (ae (eA (own:=[("number",11)]) (te:=fj K (bQ Ũ (fj K ž "entries") (ax 11)) "row") rfl oj.nd (dX (pv 9)) Ê
    (λ_ _ _ _ _=>cZ 11 oj.nd) Ò (λ_ _ _ _ _=>aX (cJ c9 Ň (pv 11) Ö) rfl)) af))))
   (aB (cf 12 oj.nd (tI (pH (rR (pv 10))) Ĩ (eA (own:=[("view",13)]) (tt:=mX (g8 (OL C CV) [] E0 (a9 (ax 10) (a9 ř (a9 (ax 13) dq))))) (te:=fj K (ax 13) "side") rfl oj.nd (dX Ϫ) Ê
    (λ_ _ _ _ _=>cZ 13 oj.nd) (λ_ _ _ _ _=>oE (jh (bx dF (ae (pv 10) (ae å (ae (pv 13) af)))))) (λ_ _ _ _ _=>aX (pv 13) rfl))))
   (aA (dj (cw Ãl (pv 12) Ĩ (bU _)) (aA (pI (Ü (pv 8) (ae (pV dR hr (ae (pv 9) (ae (pv 10) (ae (pv 12) af)))) af)))) dQ)))))
  (aA (aV (pv 8))))))),?_⟩
 let Yz:=hP.c6;apply(_,Á,aY hP.l.pl TC.cP TC.m8 Äx ⟨p.gl,Á,⟨_,aa.of hP.l.gl⟩,λD hD=>fV (K:=K) (a:=p.gl) (xs:=p.ao.M λg=>V.ref g.a) (jR H D λi=>(lR Þ ò).D i []) Ď (λi H' _ f=>aa.of (f.E _ _ hP.l.gl)) (λi v H' hi f=>?_) (λH1 f=>?_)⟩)
 .let(g,hg,rfl):=gQ hi;let dm:=(bo.mp hg).1;apply(Á,eJ ⟨_,Á,_,Á,b,g,Á,hB.E f.E,(hP.l.sub (bj hg)).E f.E,λH3 q n=>jR.step hD Î f n.1 n.2.1 ?_⟩);rw[n.2.2];ext lR;symm
 let(y,eya,s1,Z,hy,XF):=jR.end hD f;subst eya;rw[ak] at Z;let gH:(lR Þ ò).L=p.ao.L:=by
  ext lR;simp
 let Z:y.m=lR Þ ò:=by
  rw[Z,<-gH];let:=vU (l:=lR Þ ò) (g:=λx=>x) (d:=[]);symm
 let tP:y.ls.L=p.ao.L:=by rw[<-ie,Z,gH]
 let qJ:∀c∈y.m,c.L<=2048:=λc hc=>by
  rw[Z] at hc;delta lR at hc;let(g,_,rfl):=bG.mp hc;ext sP;let M:=B3 (Bz Þ g.above g.below g.flags.L) (List.range (b.es.M bI.row).L);rw[ik,ak] at M;let:=hB.e.c6;grind
 apply(_,Á,y.a,Á,⟨_,aa.of (ju hy)⟩,λD2 ck=>fV (K:=K) (a:=y.a) (xs:=y.ls.M λx=>V.ref x.a) (fe H1 D2 λi=>(((y.m.D i []).L:Nat):Int)) Çk (λi H' _ f=>aa.of (f.1 _ _ (ju hy))) (λi v H' hi f2=>?_) Åw)
 .let(x,O,rfl):=gQ hi;let dm:=(bo.mp O).1;apply(Á,eJ ⟨_,Á,x.a,_,Á,.inl (aa.of (f2.1 _ _ (nc hy (bj O)))),fe.step ck Î f2 Ĥ ?_⟩);rw[dw,gO,D1 O]
 let s2:=s1.R f2.1;let df:=f2.2;rw[ak,<-ie] at df;let AW:(List.range y.m.L).M (λi=>(((y.m.D i []).L:Nat):Int))=nv Ź:=by
  ext nv;rw[cj];exact vU (l:=y.m) (g:=λc=>((c.L:Nat):Int)) (d:=[])
 rw[AW] at df;let edd:uJ Þ p.m.ao=iw Ź:=by
  rw[Z];rfl
 rw[edd] at k1 k2;apply(D2,_,Á,df,λn hn=>?_,_,_,Á,Á,_,Á,a0 Ï Ï)
 .grind
 .let hc:1024<iw Ź:=by
   lia
  exact gc ((k2 hc).go s2)
 let hc:iw Ź<=1024:=by
  lia
 let k1:=k1 hc;let YA:=hP.E s2;let nX:=hL.E s2;apply(_,Á,p,Á,YA.l,λH3 q n3=>⟨q,Á,⟨_,aa.of n3.2.2⟩,λD3 sO=>fV (K:=K) (a:=q) (xs:=iv (nv Èl)) (jS (rh CV) vV.a (λi v=>∀s,Èl[i]? =Α s->v.side=s/\v.gs.M cA.m=sI Ô p.classes s ò) H3 D3) (cy.zero sO) (λi H' _ f=>aa.of (f.E _ _ n3.2.2)) (λi v H' hi f3=>?_) (λH4 f3=>?_)⟩)
 .let(sd,uv,rfl):=jr hi;let dm:=(bo.mp uv).1;let pP:(uH p.side).L<=2:=by
   ext uH;grind
  let s3:=n3.1.R f3.E;apply(Á,eJ ⟨_,Á,aY (A9 (nX.E s3).lies) TL.1 (TL.2 _ Ä) (DJ l) ⟨_,Á,_,Á,l.kl,l.kinds,p,sd,Á,(nX.E s3).ks,YA.E s3,λH5 v s5 e1 e2 lv fv=>?_⟩⟩);apply jS.step sO Î f3 s5 v (λs hs=>?_) lv fv;grind
 let(vs,KH,s3,amS,YB,hvL,hvF):=jS.end f3;rw[dw,gO] at KH;let s4:=s2.R (n3.1.R s3);apply(di _,λr o5=>?_);let s5:ai H4 (upd H4 r ã):=aG o5;let Bm:(upd H4 r ã) r=Α ã:=aq;let avk:∀b o,H4 b=Α o->b≠r:=λb o e z=>by rw[z,o5] at e;cases e
 generalize upd H4 r ã=H5 at s5 Bm;let hy5:=(hy.E f2.1).E ((n3.1.R s3).R s5);apply(_,Á,y,Á,hy5,by lia,λx O=>?_,λ_=>hc,λH6 z s6 og hz EB=>?_)
 .let:=qJ x.ns (by ext cA.m;exact bG.mpr ⟨x,O,Á⟩);lia
 let ux:z.a≠r:=λe=>by
  let M:=EB (z.a,_) (eO ..);lia
 let YC:∀x∈e9 z,x.1≠r:=λx O e=>by
  let M:=EB x O;lia
 let s46:=s5.R s6;let hr6:=s6 _ _ Bm;let eR:jc Ô Þ p.m=z.m.filterMap (uI Ô Þ ò ż):=by
  rw[og,Z];rfl
 rw[eR] at k1;let avl:z.ls.L<=1024:=by
  rw[<-ie,og];ext wk;split
  .simp
  .rw[Yl];omega
 refine⟨z.a,Á,⟨_,aa.of (ju hz)⟩,pJ (K:=K) (a:=z.a) (xs:=z.ls.M λx=>V.ref x.a) (Yy CR l b p y D3 r H4 z)
  ⟨none,none,none,[],rfl,s46,hz,hr6,by simp,bA _,rfl⟩ (λi σ H' _ h=>(by let(_,_,_,_,_,_,h):=h;exact aa.of (ju h))) ?_ ?_⟩
 .rintro i v σ H7 hi ⟨v9,zR,yQ,rs,rfl,s7,Iu,PD,zt,amX,Iv⟩;let(x,O,rfl):=gQ hi;let gY:=bj O;let dm:=(bo.mp O).1;let YD:x.ns∈z.m:=by ext cA.m;exact bG.mpr ⟨x,gY,Á⟩
  let hzi:z.m[i]? =Α x.ns:=by ext cA.m;rw[bz,O];rfl
  let En:x.ns∈mv y.m:=by
   rw[og] at YD;delta wk at YD;grind
  let oS:x.ns.L=p.ao.L:=by rw[Pz _ _ En,Z,gH]
  let lF:=nc Iu gY;let YE:∀(j n:Nat)(g:cz),x.ns[j]? =Α n->p.ao[j]? =Α g->∃e,b.es[n]? =Α e/\g.flags.L<=e.row.L:=λj n g M h2=>by
   let h3:=amM y.m x.ns En j n (sP Þ g.m) M (by rw[Z];ext lR;rw[bz,bz,h2];rfl);delta sP at h3;let(h4,h5):=iz.mp h3;simp at h4;apply(b.es[n],cI h4,?_);delta Bz oh at h5;rw[getD_map (cI h4)] at h5;let eg:g.m.flags.L=g.flags.L:=by ext cz.m;rw[ak]
   lia
  let hes:∀n∈x.ns,∃e,b.es[n]? =Α e:=λn hn=>by
   let(j,hj,e):=nr hn;let(e',h',_):=YE j n p.ao[j] (by grind) (cI (by omega));grind
  let Iw:=s4.R s7;let hL7:=hL.E Iw;let hB7:=hB.E Iw;let hP7:=hP.E Iw;apply(_,Á,aY (A9 hL7.lies) TL.1 (TL.2 _ Ä) (DJ l) ⟨_,Á,x.a,Á,⟨_,aa.of lF⟩,λD8 Ii=>fV (K:=K) (a:=x.a) (xs:=iv (nv x.ns)) (cy H7 D8 λi v ns=>∃e:bI,(∀n,x.ns[i]? =Α n->b.es[n]? =Α e)/\v=.ref e.rw/\ns=[]) (cy.zero Ii) (λi H' _ f=>aa.of (f.E _ _ lF)) (λj v H' hi f8=>?_) (λH8 f8=>?_)⟩)
  .let(n,hn,rfl):=jr hi;let oC:=(bo.mp hn).1;let(e,he):=hes n (bj hn);let EC:=hB7.E f8.E;let lX:=EC.e.l e (bj he);apply(Á,eJ ⟨_,Á,aY EC.a TB.1 (TB.2 _ Ä) (Yd b) ⟨_,Á,b.el,_,(n:Int),.ref e.a,Á,Á,aa.of EC.e.a,fZ (by grind),aY (Ey lX) TE.1 (TE.2 _ Ä) (Ew e) ?_⟩⟩);apply f8.step Ii Î Ĥ ⟨e,λn' Sq=>?_,Á,Á⟩ aU.nil Ä;grind
  let(ys,s8,hd8,YF,fl):=f8.end;let(bs,rfl,r8,_):=y6 (v:=λe:bI=>V.ref e.rw) (nd:=λ_=>[]) (R:=λi e=>∀n,x.ns[i]? =Α n->b.es[n]? =Α e) fl;rw[ak,dw,gO] at YF;let Cd:∀(j:Nat)(e:bI),bs[j]? =Α e->∃n,x.ns[j]? =Α n/\b.es[n]? =Α e:=λj e he=>by
   let M:=(bo.mp he).1;exact(x.ns[j]' Î,cI _,r8 j e he _ (cI _))
  let xp:∀e∈bs,e∈b.es:=λe he=>by
   let(j,hj,rfl):=nr he;let(n,_,h2):=Cd j _ (cI hj);grind
  let PF:=Iw.R s8;let PJ:=hL.E PF;let EC:=hB.E PF;let hP8:=hP.E PF;let vS:=s8 _ _ PD;let e2m:(⟨D8,bs.M λe=>⟨e.rw,e.row⟩⟩:cA).m=jW Þ x.ns:=by
   ext cA.m jW;rw[cj];apply Bb YF λj e n M h2=>?_;grind
  let By:∀jl∈jW Þ x.ns,jl∈b.es.M bI.row:=λjl h=>by
   rw[<-e2m] at h;delta cA.m at h;grind
  let hy2:OV H8 ⟨D8,bs.M λe=>⟨e.rw,e.row⟩⟩ l.kinds.L:=by
   apply(Bw (by rw[cj];exact hd8) λw J=>?_,by grind,λw J=>?_,λw J=>?_)
   all_goals let(e,he,rfl):=bG.mp J
   .exact Ez (EC.e.l e (xp e he))
   .let:=wj.short e.row (bG.mpr ⟨e,xp e he,rfl⟩);lia
   .intro s hs;let:=wj.lt e.row (bG.mpr ⟨e,xp e he,rfl⟩) s hs;grind
  let fY:((⟨D8,bs.M λe=>⟨e.rw,e.row⟩⟩:cA).m.flatten).L<=1000:=by
   let M:∀(L:bf),(∀w∈L,w.L<=8)->L.flatten.L<=8*L.L:=by
    intro L;induction L with
    |nil=>simp
    |cons a L ih=>
     grind
   let h2:=M (⟨D8,bs.M λe=>⟨e.rw,e.row⟩⟩:cA).m λw J=>wj.short w (By w (by grind));rw[ie] at h2;grind
  let YG:=amO (q:=uI Ô Þ ò ż) hzi;let U:uI Ô Þ ò ż x.ns=match o4 Ô (jW Þ x.ns) with
   |some (some hs)=>if sS ż ò hs=[] then none else some (x.ns,hs,sS ż ò hs)
   |_=>none:=rfl
  generalize uI Ô Þ ò ż x.ns=Gq at YG U;let skip:Gq=Β->∀(H':Hp)(YH YI:Option V),ai H8 H'->Yy CR l b p y D3 r H4 z (i+1) [some (.ref l.a),some Çz,some ϭ,some Áe,none,none,some (.ref D3),none,some ϣ,some (.ref x.a),YH,none,YI,none] H':=λen H' YH YI s'=>by
   apply(_,_,_,rs,Á,(s7.R s8).R s',Iu.E (s8.R s'),s' _ _ vS,λw J=>⟨(zt w J).1.same (s8.R s'),(zt w J).2⟩,by lia,?_);grind
  cases ed:o4 Ô (jW Þ x.ns) with
  |none=>exact absurd ed (PJ.sh _ λjl hr s hs=>wj.sg jl (By jl hr) s hs)
  |some ro=>
  rw[ed] at U;apply(l.kl,l.kinds,_,ro,Á,PJ.ks,PJ.ms,hy2,fY,by grind,λhs eh H9 zz s9 PK zm fzz=>?_,λeh H9 s9=>?_)
  .subst eh;let U:Gq=if sS ż ò hs=[] then none else some (x.ns,hs,sS ż ò hs):=U;let YJ:∀w∈e9 zz,w.1≠r:=λw J e=>by
    let M:=fzz w J;lia
   let hr9:=s9 _ _ vS;let evs:vs.M (λv=>(v.side,v.gs.M cA.m))=mw Ô p.m:=Bb KH λi v sd M h2=>by
    let(h3,h4):=YB i v M sd h2;rw[h3,h4];rfl
   let esf:sS ż ò hs=(vs.J λv=>oR hs ò ϶).M vV.side:=by
    rw[<-evs];ext sS;rw[wI,cj];rfl
   rw[esf] at U;let YK:=λv hv=>(hvL v hv).E ((s7.R s8).R s9);let YL:=((s7.R s8).R s9) _ _ amS;let bZ:=Yv ed;let hhl:hs.L=p.ao.L:=by
    let:=b9 List.length bZ;rw[ak,ak] at this;rw[this];ext jW;grind
   let anb:zz.ls.L=p.ao.L:=by rw[<-ie,PK,hhl]
   apply(_,Á,_,Á,oG ⟨_,Á,D3,Á,⟨_,aa.of YL⟩,λD9 Iy=>fV (K:=K) (a:=D3) (xs:=vs.M λv=>V.ref v.a) (sR H9 D9 vs (λv=>oR hs ò ϶) λv=>V.int (v.side:Nat)) (sR.zero Iy) (λi H' _ f=>aa.of (f.1 _ _ YL)) (λj v H' hi Y=>?_) (λF4 Y=>?_)⟩)
   .let(v,hv,rfl):=gQ hi;let YM:=bj hv;let oC:=(bo.mp hv).1;let pP:(uH p.side).L<=2:=by
     ext uH;grind
    obtain⟨sd,uv⟩:∃sd,Èl[j]? =Α sd:=⟨_,cI Î⟩;let An:=(YB j v hv sd uv).2;let anc:v.gs.L=p.ao.L:=by
     let:=b9 List.length An;delta sI at this;grind
    apply(Á,_,Á,_,Á,_,Á,zz,p,v,Á,zm.E Y.1,(hP8.E s9).E Y.1,(YK v YM).E Y.1,anb,anc,λm h g s M h2 h3=>?_,λH' s'=>Ę)
    .let e1:hs[m]? =Α h.ns:=by rw[<-PK];ext cA.m;rw[bz,M];rfl
     let CM:=(bo.mp h2).1;obtain⟨n,hn⟩:∃n,x.ns[m]? =Α n:=⟨_,cI (by omega)⟩;let(e,he,hfe):=YE m n g hn h2;let e2:(jW Þ x.ns)[m]? =Α e.row:=by
      ext jW;grind
     let e3:=amN bZ e1 e2;let e4:=wj.short e.row (bG.mpr ⟨e,bj he,rfl⟩);apply(?_,by omega,by omega);let e5:϶[m]? =Α s.m:=by rw[bz,h3];rfl
     rw[An] at e5;delta sI at e5;rw[bz,bz,h2] at e5;let e5:=aQ e5;let e6:=b9 List.length e5;delta zf cz.m at e6;rw[ak,ak,ie] at e6;omega
    .rw[PK];refine a0 Ï Ï
     .let Ak:=(YK v YM).E (Y.1.R s');exact(_,Á,aY (WT Ak) TV.1 (TV.2 _ Ä) (akA v) (sR.yes Iy (by omega) Y s' hv hc Á))
     .exact Y.no s' hv hc
   .let ma:=Y.1;let BC:=Y.2;rw[ak,i4] at BC;let BC:F4 D9=Α (.lst (iv (nv ((vs.J λv=>oR hs ò ϶).M vV.side)))):=by
     rw[BC];simp
    generalize ((vs.J λv=>oR hs ò ϶).M vV.side)=W at U BC;apply(_,Á,di _,λe he=>⟨D9,e,_,Á,Á,aa.of ((Èv) _ _ BC),aa.of aq,_,Á,a0 (λaL=>?_) (λaL=>?_)⟩)
    .let aL:¬W=[]:=λz=>by
      grind
     rw[ag aL] at U;let md:ai H8 (upd F4 e ã):=(s9.R ma).R Èv;let YN:=(aG (o:=.lst []) he) _ _ BC;let YO:=(zm.E ma).E (aG (o:=.lst []) he);generalize upd F4 e ã=Dl at md YN YO;let PL:=md _ _ vS;apply(_,Á,.inl ⟨Á,_,aa.of PL⟩,_,Á,_,Á,_,Á,?_);intro a dx ha gU avo;refine⟨a,dx,[.ref x.a,.ref zz.a,.ref D9],Á,Á,aq,λH12 e12 e2=>Ţ⟩;let fA:=λb o eb=>e2 b o (by rw[az (eQ eb ha),az (eQ eb gU)];exact eb) (eQ eb ha);let ang:=fA _ _ PL;let YQ:a≠r:=λz=>by rw[z,PL] at ha;cases ha
     let hDr:D9≠r:=λz=>by rw[z,hr9] at Iy;cases Iy
     let Iz:=s8.R (md.R fA);let avp:=Iz _ _ lF;let YR:=λw J=>YC w (by ext e9;exact aK _ (jg.mpr ⟨x,gY,J⟩));apply(r,_,_,Á,Á,ang,by rw[ak];exact f7 (by omega),_,_,_,rs++[⟨a,dx,x,zz,⟨D9,W⟩⟩],rfl,fc (s7.R Iz) o5,λw J=>?_,?_,λw J=>?_,by grind,?_)
     .rw[az (YC w J)];exact(Iu.E Iz) w J
     .rw[aq,bH];rfl
     .rcases fu.mp J with J|J
      .exact(λq hq=>by rw[az ((zt w J).2 q hq)];exact((zt w J).1.same Iz) q hq,(zt w J).2)
      .obtain rfl:w=_:=by simpa using J
       refine⟨Yw (by show upd H12 r _ a=_;rw[az YQ];exact e12) Æt Æt Æt,Yw YQ YR YJ Æt⟩
       .rw[az (YR q hq)];simp only[lsN,iS] at hq;grind
       .rw[az (YJ q hq)];exact(YO.E fA) q hq
       .simp only[lsN,iS] at hq;subst hq;rw[az hDr];exact fA _ _ YN
       .simp only[lsN,iS] at hq;grind
     .rw[YG,U,bH,Iv];show _++[(x.ns,zz.m,W)]=_;grind
    .let aL:W=[]:=by
      cases W with
      |nil=>rfl
      |cons a b=>grind
     rw[ah aL] at U;exact skip U _ _ _ ((s9.R ma).R Èv)
  .subst eh;refine⟨_,Á,_,Á,lp ⟨di _,λd hd=>⟨_,Á,di _,λe he=>⟨d,e,_,Á,Á,aa.of ((Èv) _ _ aq),aa.of aq,_,Á,oG (skip U _ _ _ (s9.R ((aG hd).R Èv)))⟩⟩⟩⟩
 .rintro σ H7 ⟨v9,zR,yQ,rs,rfl,s7,Iu,PD,zt,amX,Iv⟩;rw[ak,<-ie,i4] at Iv;exact(_,Á,k1 H7 r rs (s4.R s7) Iv ⟨PD,λx O=>(zt x O).1⟩)
end
structure IA(ms:aI):Prop where
 look:∀k∈ms,gf k.look
 mo:xP ms
 sh:∀rows,(∀r∈rows,∀s∈r,kJ ms s=true)->o4 ms rows≠none
structure IB(m:eV):Prop where
 xK:m.classes.L=16
 c6:m.ao.L<=100
 flags:∀g∈m.ao,g.flags.L<=100
 cells:∀g∈m.ao,∀s∈g.flags,s.2.L=16
structure zu where
 a:Addr
 dx:Addr
 q:Addr
 l:vO
 b:rB
 p:dZ
 rs:List eK
def IC(f:zu):List (Str×V):=[("locker",.ref f.l.a),("book",.ref f.b.a),("plate",.ref f.p.a),("readings",.ref f.q)]
def ani(f:zu):(IC f).Q ("readings":Str)=Α (.ref f.q):=(fm É).R ((fm É).R ((fm É).R gK))
structure Kn where
 C:Cs
 CL:Addr
 CK:Addr
 fO:Addr
 CE:Addr
 CR:Addr
 CF:Addr
structure PM(k:Kn)(H:Hp)(f:zu):Prop where
 a:H f.a=Α (.ins k.CF f.dx (IC f))
 l:wg k.CL k.CK H f.l
 b:zq k.fO k.CE H f.b
 p:rj k.C H f.p
 rs:BB k.CR H f.q f.rs
def BB.same{CR:Addr}{H H':Hp}{q:Addr}{rs:List eK}(h:BB CR H q rs)(s:ai H H'):BB CR H' q rs:=⟨s _ _ h.1,λr hr=>(h.2 r hr).E s⟩
structure YS(f:zu)(x:LI×aI)(y:LI×List (LN×LI))(m:eV):Prop where
 n:f.l.name=x.1
 k:f.l.kinds.M au.m=x.2
 b:f.b.m=y
 p:f.p.m=m
 r:f.rs.M eK.m=jc x.2 (y.2.M (·.1)) m
inductive YT(K:FR)(k:Kn)(CN CB o6 CT:Addr)(vs:ay)(H:Hp)(Q:VK)(E:XK):Prop
 |mk (at_ ab ap:Addr) (t b p:LI) (_:vs=[.ref at_,.ref ab,.ref ap]) (_:ä at_ (iv t)) (_:ä ab (iv b)) (_:ä ap (iv p)) (_:t.L<=66000) (_:b.L<=66000) (_:p.L<=66000) (_:(∀x,gM t=Α x->IA x.2)) (_:(∀m,ip p=.ok m->IB m)) (_:(gM t=Β->No E CN H)) (_:∀x,gM t=Α x->(lQ x.1 x.2 b=Β->No E CB H)/\∀y,lQ x.1 x.2 b=Α y->(∀e,ip p=.error e->∀H' d,ai H H'->H' d=Α (vG d (NH e.1 e.2))->E (.ref o6) (some d) H')/\∀m,ip p=.ok m->(1024<uJ (y.2.M (·.1)) m.ao->No E CT H)/\(uJ (y.2.M (·.1)) m.ao<=1024->∀H' f,ai H H'->PM k H' f->YS f x y m->Q (.ref f.a) H'))
section
variable{P:Pg}{w:Wd}{K:FR}{mg:MG}{base:Heap}{CN CB o6 CT CF:Addr}{k:Kn}
def ID:bC ["t","b","p","locker","book","plate"] ["t","b","p"] (ba Nc):=cg
def anj(F:br K "found" "found" Nc f fd)(dL:Ċ Ē 6 "read_locker" ["text"] (Wp K k.CL k.CK CN))(dB:Ċ Ē 6 "read_book" ["locker","text"] (Ye K k.CL k.CK CB k.CE k.fO))(dP:Ċ Ē 6 "read_plate" ["text"] (VZ K k.C o6))(dR:Ċ Ē 5 "readings_of" ["locker","book","plate"] (Yx k.C k.CL k.CK k.fO k.CE k.CR CT)) (dF:Ā "Finding" k.CF ["locker","book","plate","readings"]):Ģ Ē 7 f fd ["t","b","p"] (YT K k CN CB o6 CT):=by
 let(fL,fdL,GL,mL,kL,bL):=dL;let(fB,fdB,GB,mB,kB,bB):=dB;let(fP,Nl,GP,mP,kP,bP):=dP;let(fR,fdR,GR,mR,kR,bR):=dR;refine F.qL ID Â;let(at_,ab,ap,t,b,p,rfl,hT,hB,hP,lT,lB,lP,gL,gP,k1,k2):=h;let hr5:eS 5 _:=hr.mono Ñ;refine⟨_,aB (cf 3 ID.nd (nH GL hr Á mL kL bL .nil sk õ))
  (aB (cf 4 ID.nd (nH GB hr rfl mB kB bB .nil sk (ae ö Ĺ)))
  (aB (cf 5 ID.nd (nH GP hr rfl mP kP bP .nil sk ł))
  (aA (aV (pV dF hr (ae ö (ae ę (ae Ãd (ae (nH GR hr5 rfl mR kR bR .nil sk (ae ö (ae ę ŀ))) af))))))))),?_⟩
 apply(_,Á,at_,t,Á,hT,lT,λx ex H1 l s1 Z z hl lk=>?_,k1);let(k2,k3):=k2 x ex;let O:=gL x ex;let hL:wg k.CL k.CK H1 l:=by
  rw[<-z] at O;exact(hl,lk,λq hq=>O.look q.m (bG.mpr ⟨q,hq,Á⟩),O.mo,O.sh)
 apply(_,Á,_,Á,l,ab,b,Á,hL,s1.seq hB,lB,λy ey H2 bk s2 e3 hb rs=>?_,λen=>?_)
 .rw[Z,z] at ey;let(k3,k4):=k3 y ey;let fA:=s1.R s2;apply(_,Á,ap,p,Á,fA.seq hP,lP,λm em W pl j hp J=>?_,λe ee W d j hd=>k3 e ee W d (fA.R j) hd);let(k4,k5):=k4 m em;let gp:=gP m em;let lE:=fA.R j;let YU:rj k.C W pl:=by
   subst J;exact(hp,gp.xK,by let:=gp.c6;delta dZ.m at this;rw[ak] at this;exact this,λg hg=>(by let:=gp.flags g.m (bG.mpr ⟨g,hg,rfl⟩);delta cz.m at this;rw[ak] at this;exact this),λg hg s hs=>gp.cells g.m (bG.mpr ⟨g,hg,rfl⟩) s.m (bG.mpr ⟨s,hs,rfl⟩))
  let Y:bk.es.M bI.row=y.2.M (·.1):=by
   rw[<-e3];ext rB.m;rw[cj];rfl
  apply(_,Á,_,Á,_,Á,_,Á,_,Á,_,Á,l,bk,pl,Á,(hL.E s2).E j,hb.E j,YU,rs,λhd H4 q rds U e5 hr4=>?_,λhd=>?_)
  .rw[Y,J] at hd;rw[Y,z,J] at e5;apply xE Á λa dx H5 ha gU aL e6 M=>?_;refine k5 hd H5 ⟨a,dx,q,l,bk,pl,rds⟩ ((lE.R U).R M) ⟨e6,(((hL.E s2).E j).E U).E M,((hb.E j).E U).E M,(YU.E U).E M,hr4.E M⟩ ⟨Z,z,e3,J,e5⟩
  .rw[Y,J] at hd;exact(k4 hd).go lE
 .rw[Z,z] at en;exact(k2 en).go s1
end
def refusal(t b p:LI):Option Int:=if 65536<t.L\/65536<b.L\/65536<p.L then some (-2) else match gM t with
 |none=>some (-6)
 |some x=>match lQ x.1 x.2 b with
  |none=>some (-9)
  |some y=>match ip p with
   |.error _=>some (-8)
   |.ok m=>if 1024<uJ (y.2.M (·.1)) m.ao then some (-7) else none
def mx3(a b c:Nat):decide (AJ (AJ ((a:Nat):Int) ((b:Nat):Int)) ((c:Nat):Int)>65536)=decide (65536<a\/65536<b\/65536<c):=by
 rw[JU];ext AJ;split <;> split <;> omega
inductive YV(K:FR)(k:Kn)(fT:Addr)(Jw:Sp)(vs:ay)(H:Hp)(Q:VK)(E':XK):Prop
 |mk (at_ ab ap:Addr) (t b p:LI) (_:vs=[.ref at_,.ref ab,.ref ap,.ref fT]) (_:ä at_ (iv t)) (_:ä ab (iv b)) (_:ä ap (iv p)) (_:t.L<=66000) (_:b.L<=66000) (_:p.L<=66000) (_:(∀x,gM t=Α x->IA x.2)) (_:(∀m,ip p=.ok m->IB m)) (_:(∀z,ŵ p=Α z->∀H' r,H' r=Α (.lst [.int z])->Q ϣ H')) (_:(ŵ p=Β->∀x y m,gM t=Α x->lQ x.1 x.2 b=Α y->ip p=.ok m->∀H' f,ai H H'->PM k H' f->YS f x y m->Jw [.ref f.a] H' Q E0))
abbrev uK(n:Int):TS:=Co (Am (a9 (FP (rU λi=>.int (-i)) (tC (.int n))) dq))
section
variable{P:Pg}{w:Wd}{K:FR}{mg:MG}{base:Heap}{CN CB o6 CT CF N1 N2 N3 N4:Addr}{k:Kn}{fT:Addr}{PP:FD}{Jw:Sp}
def YW:bC ["t","b","p","told","finding"] ["t","b","p","told"] (ba Nb):=cg
def anp(F:br K "answered" "answered" Nb f fd)(Z:Ğ "NoLocker" CN N1)(Y:Ğ "NoBook" CB N2)(XP:G7 K mg o6 N3)(XT:Ğ "TooMuchInDoubt" CT N4)(nd:[CN,CB,o6,CT].Nodup)(tL:mg "len"=Β)(tM:mg "max"=Β)(cM:Cn mg "MOST_BYTES" (.int 65536))(dF:Ċ Ē 7 "found" ["t","b","p"] (YT K k CN CB o6 CT)) (L:Ë 7 fT PP ["finding"] Jw) (kT:PySem.W.keepIn K (.ref fT)=true) (bT:Binds K PP ["finding"] []):Ë 8 f fd ["t","b","p","told"] (YV K k fT Jw):=by
 let(fF,anq,GF,mF,kF,bF):=dF;refine F.ok YW Â;let(at_,ab,ap,t,b,p,rfl,hT,hB,hP,lT,lB,lP,gL,gP,k1,k2):=h;simp only[kY,a8,kZ,k7,not_or,not_false_eq_true,z6,and_true] at nd;let((n1,n2,n3),(n4,n5),n6):=nd;refine⟨_,aB (dj (cw rW (c8 (ag8 Á) Ð tM HM (ae č (ae Ă (ae ā af)))) (cu cM) (bU _)) (aA (aV (dv (ae Âg af)))) dQ)
  (aB (UT ⟨rfl,rfl⟩ (UU (i:=4) YW.nd rfl Çs GF hr rfl mF kF bF (ae Ø (ae á ł)))
   (xm (ts:=uK 6) Z.c rfl Z.mC ñ
   (xm (ts:=uK 9) Y.c rfl Y.mC ñ
   (xm (ts:=uK 8) XP.c rfl XP.mC ñ
   (xm (ts:=uK 7) XT.c rfl XT.mC ñ UQ)))))
  (aA (aV (agU (i:=3) L hr kT bT rfl Çs ŝ)))),?_⟩
 apply(_,Á,at_,_,Á,.inl hT,_,Á,ab,_,Á,.inl hB,_,Á,ap,_,Á,.inl hP,_,_,_,Á,_,_,Á,Á,_,Á,?_);rw[dw,dw,dw,mx3];let j:ŵ p=if 65536<t.L\/65536<b.L\/65536<p.L then some (-2) else match gM t with
  |none=>some (-6)
  |some x=>match lQ x.1 x.2 b with
   |none=>some (-9)
   |some y=>match ip p with
    |.error _=>some (-8)
    |.ok m=>if 1024<uJ (y.2.M (·.1)) m.ao then some (-7) else none:=rfl
 generalize refusal t b p=rf at j k1 k2;let U:∀(z n:Int),rf=Α z->z= -n->∀(D:Ends)(σ:L2.St)(H':Hp),(∀r pR,pR r=Α (.lst [.int z])->D.rt ϣ pR)->uK n D σ H':=λz n _ e2 D σ H' hD=>by
  subst e2;exact(_,Á,(by show 1<=sizeLine;decide),λr hr=>hD r _ aq)
 refine a0 Ï Ï
 .let hc:65536<t.L\/65536<b.L\/65536<p.L:=by simpa using hc
  rw[ah hc] at j;exact U _ _ j Á _ _ _ λr H' e=>k1 _ j H' r e
 .let hc:¬(65536<t.L\/65536<b.L\/65536<p.L):=by simpa using hc
  rw[ag hc] at j;apply(_,Á,_,Á,_,Á,at_,ab,ap,t,b,p,Á,hT,hB,hP,lT,lB,lP,gL,gP,λen H1 q=>?_,λx ex=>⟨λen H1 q=>?_,λy J=>⟨λe ee H1 d q hd=>?_,λm em=>⟨λhd H1 q=>?_,λhd H1 fd q ok is=>?_⟩⟩⟩)
  .rw[en] at j;exact(CN,N1,Á,Z.c,λa M gU fl=>⟨λ_ O zw=>U _ _ j Á _ _ _ λr H' e=>k1 _ j H' r e,λz=>absurd Á z⟩)
  .rw[ex] at j;dsimp only at j;rw[en] at j;exact(CB,N2,Á,Y.c,λa M gU fl=>⟨λz=>absurd z.symm n1,λ_=>⟨λ_ O zw=>U _ _ j Á _ _ _ λr H' e=>k1 _ j H' r e,λz=>absurd Á z⟩⟩)
  .rw[ex] at j;dsimp only at j;rw[J] at j;dsimp only at j;rw[ee] at j;exact(o6,N3,Á,XP.c,λa M gU fl=>⟨λz=>absurd z.symm n2,λ_=>⟨λz=>absurd z.symm n4,λ_=>⟨λ_ O zw=>U _ _ j Á _ _ _ λr H' e=>k1 _ j H' r e,λz=>absurd Á z⟩⟩⟩)
  .rw[ex] at j;dsimp only at j;rw[J] at j;dsimp only at j;rw[em] at j;dsimp only at j;rw[ah hd] at j;exact(CT,N4,Á,XT.c,λa M gU fl=>⟨λz=>absurd z.symm n3,λ_=>⟨λz=>absurd z.symm n5,λ_=>⟨λz=>absurd z.symm n6,λ_=>⟨λ_ O zw=>U _ _ j Á _ _ _ λr H' e=>k1 _ j H' r e,λz=>absurd Á z⟩⟩⟩⟩)
  .rw[ex] at j;dsimp only at j;rw[J] at j;dsimp only at j;rw[em] at j;dsimp only at j;rw[ag Å] at j;exact(Á,_,Á,k2 j x y m ex J em H1 fd q ok is)
end
end HD
namespace HD
open PySem
def bitAnd_nn(a b:Nat):Builtin.bitAnd (a:Int) (b:Int)=((a&&& b:Nat):Int):=by
 rfl
def zx(g b:Nat):zh g b=g.testBit b:=by
 ext zh;let e:((g:Nat):Int)/2^b=((g/2^b:Nat):Int):=by
  rfl
 rw[e,show(1:Int)=((1:Nat):Int) from rfl,bitAnd_nn,Nat.testBit_eq_decide_div_mod_eq,at7];grind
def ED(g b:Nat):iu g b=false↔ ∀i,b.testBit i=true->g.testBit i=true:=by
 let j:iu g b=decide (b&&& g≠b):=by
  ext iu Builtin.bitAnd Builtin.bitNot;rw[eP (RZ b),gC (by lia:¬(0:Int)<= -((g:Nat):Int)-1)];dsimp only;rw[show-(-((g:Nat):Int)-1)-1=((g:Nat):Int) by lia,BU,BU];let q:b&&& g<=b:=Nat.and_le_left;by_cases h:b&&& g=b
  .rw[h];simp
  .rw[eP h];let:((b:Nat):Int)-((b&&& g:Nat):Int)≠0:=by lia
   simpa using this
 rw[j,JP,Decidable.not_not];apply(λh i hi=>?_,λh=>abz λi=>?_)
 .rw[<-h,z8,jG] at hi;exact hi.2
 .rw[z8];cases hb:b.testBit i with
  |false=>rfl
  |true=>rw[h i hb];rfl
def IE:iu g b=true↔ ∃i,b.testBit i=true/\g.testBit i=false:=by
 constructor
 .intro h;apply Fv λq=>?_;let:iu g b=false:=(ED g b).mpr λi hi=>by
   symm
  symm
 .rintro⟨i,j,h2⟩;cases e:iu g b with
  |true=>rfl
  |false=>
   rw[(ED g b).mp e i j] at h2;symm
theorem anr(g b:Nat):wa g (2^b)=g.testBit b:=by
 ext wa;rw[bitAnd_nn];cases e:g.testBit b with
 |true=>
  let h:g&&& 2^b≠0:=λz=>by
   let j:(g&&& 2^b).testBit b=true:=by rw[z8,e,at8];rfl
   symm
  symm
 |false=>
  let h:g&&& 2^b=0:=abz λi=>by
   grind
  symm
def ans(g:Nat):wa g 0=false:=by
 ext wa;rw[bitAnd_nn,Nat.and_zero];rfl
abbrev oZ(g b:Nat):Int:=lN (iu g b)
def uL(g b:Nat):oZ g b=0\/oZ g b=1:=by
 ext oZ lN;split <;> simp
theorem IF(hs:∀i,g.testBit i=true->h.testBit i=true):oZ h b<=oZ g b:=by
 ext oZ lN;cases e:iu h b with
 |false=>
  let:=uL g b;delta oZ lN at this;rw[ag eN];lia
 |true=>
  let(i,j,h2):=IE.mp e;let:iu g b=true:=IE.mpr ⟨i,j,by
   cases e2:g.testBit i with
   |false=>rfl
   |true=>rw[hs i e2] at h2;cases h2⟩
  rw[this];exact JV _
def IG(a c:Nat):∀i,a.testBit i=true->(a|||c).testBit i=true:=λi h=>by rw[Nat.testBit_or,h];rfl
def YX(a c:Nat):∀i,c.testBit i=true->(a|||c).testBit i=true:=λi h=>by rw[Nat.testBit_or,h,aaT]
def YY(a c:Nat):∀i,(a&&& c).testBit i=true->a.testBit i=true:=λi h=>by rw[z8,jG] at h;exact h.1
def ant(a c:Nat):∀i,(a&&& c).testBit i=true->c.testBit i=true:=λi h=>by rw[z8,jG] at h;exact h.2
def anu(a c b:Nat):oZ (a|||c) b+oZ (a&&& c) b<=oZ a b+oZ c b:=by
 let U:=IF (b:=b) (IG a c);let h2:=IF (b:=b) (YX a c);let W:=uL (a|||c) b;let Y:=uL (a&&& c) b;let J:=uL a b;let M:=uL c b;rcases J with j|j
 .rcases M with q|q
  .let F:iu a b=false:=by
    cases e:iu a b with
    |false=>rfl
    |true=>delta oZ lN at j;rw[e] at j;cases j
   let z:iu c b=false:=by
    cases e:iu c b with
    |false=>rfl
    |true=>delta oZ lN at q;rw[e] at q;cases q
   let O:iu (a&&& c) b=false:=(ED _ _).mpr λi hi=>by
    rw[z8,(ED _ _).mp F i hi,(ED _ _).mp z i hi];rfl
   grind
  .lia
 .grind
def jw(l:cE)(s:Nat):Nat:=(l.J λp=>decide (p.1=s)).L
def kU(l:cE)(s g:Nat):Int:=((l.J λp=>decide (p.1=s)).M λp=>oZ g p.2).sum
def bu(lf:Nat->Int)(l:cE)(s g:Nat):Int:=(jw l s:Int)-lf s-kU l s g
def jx(n:Nat)(sm:Nat->Nat)(lf:Nat->Int)(g:Nat):Int:=((List.range n).M λb=>if g.testBit b=true then lf Äs else 0).sum
def jd(lf:Nat->Int)(l:cE)(g:Nat)(D:LN):Int:=(D.M λs=>cQ (ė g)).sum
def d7(n:Nat)(sm:Nat->Nat)(lf:Nat->Int)(l:cE)(D:LN)(g:Nat):Int:=jx n sm lf g-jd lf l g D
theorem anv(hs:∀i,g.testBit i=true->h.testBit i=true)(l:cE)(s:Nat):kU l s h<=kU l s g:=by
 ext kU;generalize l.J (λp=>decide (p.1=s))=L;induction L with
 |nil=>simp
 |cons p L j=>
  let:=IF (b:=p.2) hs;grind
theorem anw(a c:Nat)(l:cE)(s:Nat):kU l s (a|||c)+kU l s (a&&& c)<=kU l s a+kU l s c:=by
 ext kU;generalize l.J (λp=>decide (p.1=s))=L;induction L with
 |nil=>simp
 |cons p L j=>
  let:=anu a c p.2;grind
theorem EE(l:cE)(s g:Nat):0<=kU l s g/\kU l s g<=jw l s:=by
 ext kU jw;generalize l.J (λp=>decide (p.1=s))=L;induction L with
 |nil=>exact(JV _,JV _)
 |cons p L j=>
  let:=uL g p.2;simp only[a7,gq,dg];omega
theorem anx(n:Nat)(sm:Nat->Nat)(lf:Nat->Int)(a c:Nat):jx n sm lf (a|||c)+jx n sm lf (a&&& c)=jx n sm lf a+jx n sm lf c:=by
 ext jx;generalize List.range n=L;induction L with
 |nil=>rfl
 |cons b L j=>
  let h:(if (a|||c).testBit b=true then lf Äs else 0)+(if (a&&& c).testBit b=true then lf Äs else 0)=(if a.testBit b=true then lf Äs else 0)+(if c.testBit b=true then lf Äs else 0):=by
   grind
  grind
def anz(h:x+y<=u+i)(j:x<=u)(h2:y<=u)(q:i<=x)(z:i<=y):cQ x+cQ y<=cQ u+cQ i:=by
 ext cQ;lia
def BD(hs:∀i,g.testBit i=true->h.testBit i=true)(lf:Nat->Int)(l:cE)(s:Nat):ė g<=bu lf l s h:=by
 let:=anv hs l s;ext bu;symm
def YZ(a c:Nat)(lf:Nat->Int)(l:cE)(s:Nat):ė a+bu lf l s c<=bu lf l s (a|||c)+bu lf l s (a&&& c):=by
 let:=anw a c l s;ext bu;lia
def PQ(a c:Nat)(lf:Nat->Int)(l:cE)(s:Nat):cQ (ė a)+cQ (ė c)<=cQ (ė (a|||c))+cQ (ė (a&&& c)):=
 anz (YZ a c lf l s) (BD (IG a c) lf l s) (BD (YX a c) lf l s) (BD (YY a c) lf l s) (BD (ant a c) lf l s)
theorem anA(a c:Nat)(lf:Nat->Int)(l:cE):∀D:LN,jd lf l a D+jd lf l c D<=jd lf l (a|||c) D+jd lf l (a&&& c) D:=by
 intro D;induction D with
 |nil=>exact JV _
 |cons s D q=>
  let j:=q;let h2:=PQ a c lf l s;delta jd at j⊢;simp only[a7,gq];lia
theorem anB(a c:Nat)(lf:Nat->Int)(l:cE){s:Nat}{D:LN}:s∈D->(jd lf l a D+jd lf l c D)+(cQ (ė (a|||c))+cQ (ė (a&&& c))-cQ (ė a)-cQ (ė c))<=jd lf l (a|||c) D+jd lf l (a&&& c) D:=by
 induction D with
 |nil=>exact @λh=>absurd h Ä
 |cons x D q=>
  intro h;rcases a8.mp h with rfl|h
  .let j:=anA a c lf l D;delta jd at j⊢;simp only[a7,gq];lia
  .let j:=q h;let h2:=PQ a c lf l x;delta jd at j⊢;simp only[a7,gq];lia
def anC{h b c:Nat}(j:h.testBit b=false)(h2:c.testBit b=true):h<h|||c:=by
 let q:h<=h|||c:=Nat.left_le_or;grind
def wm(lf:Nat->Int)(l:cE)(s b g:Nat):bu lf ((s,b)::l) s g=bu lf l s g+1-oZ g b:=by
 ext bu jw kU;grind
def BE(lf:Nat->Int)(l:cE)(b g:Nat)(h:s≠s'):bu lf ((s,b)::l) s' g=bu lf l s' g:=by
 ext bu jw kU;symm
def anD(n:Nat)(sm:Nat->Nat)(lf:Nat->Int)(l:cE){D:LN}{s:Nat}(hs:s∈D)(a c:Nat):d7 n sm lf l D (a|||c)+d7 n sm lf l D (a&&& c)+(cQ (ė (a|||c))+cQ (ė (a&&& c))-cQ (ė a)-cQ (ė c))<=d7 n sm lf l D a+d7 n sm lf l D c:=by
 let j:=anx n sm lf a c;let h2:=anB a c lf l hs;ext d7;lia
def PR(n:Nat)(sm:Nat->Nat)(lf:Nat->Int)(l:cE)(D:LN)(s B:Nat):Prop:=∀g,g<2^n->0<=d7 n sm lf l D g+cQ (ė g)-cQ (ė g+oZ g B)
def Y0(n:Nat)(sm:Nat->Nat)(lf:Nat->Int)(l:cE)(D:LN)(s B b:Nat):Prop:=∀g,g<2^n->0<=d7 n sm lf l D g+cQ (ė g)-cQ (ė g-1+oZ g B)-(if g.testBit b=true then 1 else 0)
def anE(n:Nat)(sm:Nat->Nat)(lf:Nat->Int)(r:cE){D:LN}{s B:Nat}(hs:s∈D)(h:∀g,g<2^n->0<=d7 n sm lf ß D g):
  PR n sm lf ß D s B\/∃b,B.testBit b=true/\Y0 n sm lf ß D s B b:=by
 apply Fv λhn=>?_;let Hm:=λz=>hn (Or.inl z);let nG:=λb hb z=>hn (Or.inr ⟨b,hb,z⟩);let hZ:∀(m g:Nat),2^n-g<=m->g<2^n->oZ g B=1->d7 n sm lf ß D g=0->0<=bu lf ß s g->False:=by
  intro m;induction m with
  |zero=>omega
  |succ m ih=>
   intro g hm j Y h0 avt;let Z:iu g B=true:=by
    cases e:iu g B with
    |true=>rfl
    |false=>delta oZ lN at Y;rw[e] at Y;cases Y
   let(b,Vj,AI):=IE.mp Z;let vh:=nG b Vj;delta Y0 at vh;let ⟨c,hc⟩:=at9.mp vh;let M:=Fv λz=>hc λy=>absurd y z;let hc:¬0<=d7 n sm lf ß D c+cQ (bu lf ß s c)-cQ (bu lf ß s c-1+oZ c B)-(if c.testBit b=true then 1 else 0):=λz=>hc λ_=>z;let W:=h c M;let hco:=uL c B;let Y1:c.testBit b=true:=by
    cases e:c.testBit b with
    |true=>rfl
    |false=>
     rw[e,ag eN] at hc;exfalso;apply hc;ext cQ;lia
   rw[Y1,ah rfl] at hc;let U:=Nat.or_lt_two_pow j M;let O:=Nat.and_lt_two_pow g M;let hU:=h _ U;let hI:=h _ O;let q:=anD n sm lf ß hs g c;let J:=PQ g c lf ß s;let hgU:=BD (IG g c) lf ß s;let F:=uL (g|||c) B;let hIo:=IF (b:=B) (YY g c);let avx:=uL (g&&& c) B;let qV:=BD (IG g c) lf r s;let ub:=YZ g c lf r s;let e1:=wm lf r s B g;let e2:=wm lf r s B c;let e3:=wm lf r s B (g|||c);let e4:=wm lf r s B (g&&& c);generalize hS0:d7 n sm lf ß D c=S0 at W hc q;generalize d7 n sm lf ß D (g&&& c)=SI at hI q;rw[h0] at q;let Y2:S0=0/\(oZ c B=1\/bu lf ß s c<=0):=by
    delta cQ at hc;lia
   let(Y2,jL):=Y2;rcases F with F|F
   .exfalso;delta cQ at q J;omega
   .let hSU:d7 n sm lf ß D (g|||c)=0:=by lia
    let:=anC AI Y1;grind
 delta PR at Hm;let ⟨g,j⟩:=at9.mp Hm;let n0:=Fv λz=>j λy=>absurd y z;let j:¬0<=d7 n sm lf ß D g+cQ Éj-cQ (bu lf ß s g+oZ g B):=λz=>j λ_=>z;let hgs:=h g n0;let uc:=uL g B;let hz:oZ g B=1/\d7 n sm lf ß D g=0/\0<=bu lf ß s g:=by
  delta cQ at j;grind
 exact hZ _ g (bA _) n0 hz.1 hz.2.1 hz.2.2
theorem anK(f:Nat->Int){a b:LN}(h:a.Perm b):(a.M f).sum=(b.M f).sum:=by
 induction h with
 |nil=>rfl
 |cons x _ q=>rw[a7,a7,gq,gq,q]
 |swap x y l=>
  simp only[a7,gq];lia
 |trans _ _ j h2=>exact j.R h2
theorem PV(f:Nat->Int){D:LN}:(∀s∈D,f s=0)->(D.M f).sum=0:=by
 induction D with
 |nil=>exact @λ_=>Á
 |cons x D j=>
  intro h;rw[a7,gq,h x Ä,j λs hs=>h s (aK _ hs)];rfl
theorem anL(f:Nat->Int):∀{A D:LN},A.Nodup->D.Nodup->(∀s∈A,s∉D->f s=0)->(∀s∈D,s∉A->f s=0)->(A.M f).sum=(D.M f).sum:=by
 intro A;induction A with
 |nil=>exact @λD _ _ _ h=>(PV f λs hs=>h s hs Ä).symm
 |cons x A O=>
  intro D q F M h2;let(W,q):=kY.mp q;by_cases J:x∈D
  .let U:=List.perm_cons_erase J;rw[anK f U,a7,a7,gq,gq];congr 1;apply O q (F.erase x) (λs hs j=>?_) (λs hs j=>?_)
   .exact M s (aK _ hs) λz=>j ((F.mem_erase_iff).mpr ⟨λe=>W (e▸ hs),z⟩)
   .let(Z,Y):=(F.mem_erase_iff).mp hs;exact h2 s Y λz=>(a8.mp z).elim Z j
  .rw[a7,gq,M x Ä J,R3];exact O q F (λs hs=>M s (aK _ hs)) λs hs j=>h2 s hs λz=>(a8.mp z).elim (λe=>J (e▸ hs)) j
theorem Y3:∀(n:Nat)(l:LN),l.L<=n->l.eraseDups.Nodup
 |0,l,h=>by
  let:l=[]:=RQ.mp Å;rw[this];exact z6
 |n+1,[],_=>z6
 |n+1,a::l,h=>by
  rw[List.eraseDups_cons];apply kY.mpr ⟨λz=>?_,Y3 n _ ?_⟩
  .let:=abA.mp z;simp at this
  .let:=B3 (λb=>!b==a) l;simp only[dg] at h;lia
def wo(q:Nat->Bool)(n:Nat):Nat:=(((List.range n).J q).M (2^ ·)).sum
def Y4(q:Nat->Bool)(n:Nat):wo q (n+1)=(if q n=true then 2^n else 0)+wo q n:=by
 ext wo;rw[JQ,Fs,bH,Ft];grind
theorem PX(q:Nat->Bool):∀n,wo q n<2^n:=by
 intro n;induction n with
 |zero=>
  simp[wo]
 |succ n j=>
  rw[Y4];let:=j;let e:2^(n+1)=2^n+2^n:=by rw[z4];lia
  split <;> omega
theorem Y5(q:Nat->Bool):∀n b,(wo q n).testBit b=(decide (b<n)&&q b):=by
 intro n;induction n with
 |zero=>
  intro b;simp[wo]
 |succ n z=>
  intro b;rw[Y4];let J:=PX q n;let z:=z b;by_cases h:q n=true
  .rw[ah h];by_cases j:b<n
   .rw[abB j,z,eP j,eP Î]
   .by_cases F:b=n
    .subst F;rw[abC,B5 J,h,eP Å];rfl
    .rw[gC Î,mG];apply B5 ?_;let M:2^(n+1)=2^n+2^n:=by rw[z4];lia
     let O:2^(n+1)<=2^b:=ym Ñ Î;omega
  .rw[ag h,vc,z];by_cases j:b<n
   .rw[eP j,eP (by omega)]
   .by_cases F:b=n
    .subst F;let:q b=false:=by simpa using h
     rw[this,zV,zV]
    .rw[gC j,gC (by omega)]
theorem anN(q:Nat->Bool):∀l:LN,l.J q∈Flags.choices l:=by
 intro l;induction l with
 |nil=>
  simp[Flags.choices]
 |cons x l j=>
  let j:=j;ext Flags.choices;by_cases h:q x=true
  .rw[B6 h];exact rG _ (bG.mpr ⟨_,j,Á⟩)
  .rw[B7 h];exact wD _ j
def dy(sames:LN)(p:Nat×Nat):Flags.Spot:=⟨p.1,(qf sames.L p.2).M λb=>sames.D b 0⟩
def bg(left:LN):Nat->Int:=λk=>((left.D k 0:Nat):Int)
def Y6(sames left:LN)(l:cE)(s:Nat):Flags.lacks left Çg s=jw l s-left.D s 0:=by
 ext Flags.lacks jw;rw[wI,ak];congr 2
def anO(sames:LN)(l:cE)(s g:Nat)(y:LN)(Y:∀b,b<sames.L->g.testBit b=!y.Y ŋ)(J:∀p∈l,p.2<2^sames.L):
  (((l.M ø).J λp=>p.sign==s&&p.may.any λk=>y.Y k).L:Int)=kU l s g:=by
 rw[wI,ak];ext kU;induction l with
 |nil=>rfl
 |cons p l j=>
  let j:=j λx U=>J x (aK _ U);let O:=J p Ä;let W:(dy sames p).may.any (λk=>y.Y k)=iu g p.2:=by
   ext dy;rw[JF,qx,tu,IE];ext qf;constructor
   .rintro⟨b,F,h⟩;let(q,h2):=iz.mp F;simp at q;apply(b,by rw[<-zx];exact h2,?_);symm
   .rintro⟨b,q,h2⟩;let F:b<sames.L:=by
     apply Nat.lt_of_not_le λz=>?_;let:p.2.testBit b=false:=B5 (j3 O (ym Ñ z));symm
    apply(b,iz.mpr ⟨by simp_all,by rw[zx];exact q⟩,?_);symm
  by_cases hs:p.1=s
  .rw[B6 (l:=l) (p:=λp=>decide (p.1=s)) Å,a7,gq,<-j];let M:((dy sames p).sign==s)=true:=by simpa [dy] using hs
   cases eb:iu g p.2 with
   |true=>
    rw[B6 Å,dg];ext oZ lN;grind
   |false=>
    rw[B7 Å];ext oZ lN;symm
  .rw[B7 (l:=l) (p:=λp=>decide (p.1=s)) Å,<-j];let M:((dy sames p).sign==s)=false:=by simpa [dy] using hs
   symm
theorem sum_nat(f:Nat->Nat):∀l:LN,(((l.M f).sum:Nat):Int)=(l.M λs=>((f s:Nat):Int)).sum:=by
 intro l;induction l with
 |nil=>exact Á
 |cons x l j=>
  rw[a7,a7,gq,gq,Int.natCast_add,j]
theorem sum_add(f g h:Nat->Int){l:LN}:(∀s∈l,f s=g s+h s)->(l.M f).sum=(l.M g).sum+(l.M h).sum:=by
 induction l with
 |nil=>exact @λ_=>Á
 |cons x l j=>
  intro e;rw[a7,a7,a7,gq,gq,gq,e x Ä,j λs hs=>e s (aK _ hs)];lia
def anP(sames left:LN)(g:Nat)(y:LN)(M:∀b,b<sames.L->g.testBit b=!y.Y ŋ):
  ((((sames.J λk=>!y.Y k).M λk=>left.D k 0).sum:Nat):Int)=jx sames.L Ãs æ g:=by
 let gen:∀(L:LN)(o:Nat),(∀b,b<L.L->g.testBit (o+b)=!y.Y Çt)->((((L.J λk=>!y.Y k).M λk=>left.D k 0).sum:Nat):Int)=((List.range L.L).M λb=>if g.testBit (o+b)=true then bg left Çt else 0).sum:=by
  intro L;induction L with
  |nil=>intro o _;rfl
  |cons x L F=>
   intro o h;let q:=h 0 Ä;rw[RP] at q;let q:g.testBit o=!y.Y x:=q;let F:=F (o+1) λb z=>by
    let:=h (b+1) (À z);rw[show o+1+b=o+(b+1) by lia,this];rfl
   rw[dg,zW,a7,gq,cj];let J:(List.range L.L).M ((λb=>if g.testBit (o+b)=true then bg left ((x::L).D b 0) else 0)∘Nat.succ)=(List.range L.L).M λb=>if g.testBit (o+1+b)=true then bg left Çt else 0:=by
    apply iT;intro b _;show(if g.testBit (o+(b+1))=true then bg left Çt else 0)=_;rw[show o+(b+1)=o+1+b by lia]
   rw[J,<-F,RP];show _=(if g.testBit o=true then bg left x else 0)+_;rw[q];by_cases j:y.Y x=true
   .rw[j,B7 (by rw[j];decide)];simp
   .let j:y.Y x=false:=by simpa using j
    rw[j,B6 (by rw[j];rfl),a7,gq,Int.natCast_add];rfl
 let:=gen sames 0 λb z=>by rw[vc];exact M b z
 simp only[vc] at this;exact this
def zy(lf:Nat->Int)(l:cE)(D:LN):Prop:=∀s,s∉D->(jw l s:Int)<=lf s
def PY(h:s∉l.M (·.1)):jw l s=0:=by
 ext jw;rw[RQ,atZ];grind
def Y7(sames left:LN)(l:cE)(y:LN)(g:Nat)(M:∀b,b<sames.L->g.testBit b=!y.Y ŋ)(Y:∀p∈l,p.2<2^sames.L){D:LN}(W:D.Nodup)(O:zy æ l D):
  ((((l.M ø).M λp=>p.sign).eraseDups.map (Flags.lacks left Çg)).sum<=((sames.J λk=>!y.Y k).M λk=>left.D k 0).sum+(((l.M ø).M λp=>p.sign).eraseDups.map λs=>min Àa (((l.M ø).J λp=>p.sign==s&&p.may.any λk=>y.Y k).L)).sum)↔
   0<=d7 sames.L Ãs æ l D g:=by
 let j:(l.M ø).M (λp=>p.sign)=l.M (·.1):=by
  rw[cj];rfl
 rw[j];let h1:=anP sames left g y M;let h2:=sum_nat (Flags.lacks left Çg) (l.M (·.1)).eraseDups;let h3:=sum_nat (λs=>min Àa (((l.M ø).J λp=>p.sign==s&&p.may.any λk=>y.Y k).L)) (l.M (·.1)).eraseDups;let h4:=sum_add (λs=>((Flags.lacks left Çg s:Nat):Int)) (λs=>((min Àa (((l.M ø).J λp=>p.sign==s&&p.may.any λk=>y.Y k).L):Nat):Int)) (λs=>cQ (bu æ l s g)) (l:=(l.M (·.1)).eraseDups) λs _=>by
  let F:=anO sames l s g y M Y;let U:=Y6 sames left l s;let J:=EE l s g;generalize ((l.M ø).J λp=>p.sign==s&&p.may.any λk=>y.Y k).L=o at F;rw[U];ext bu cQ bg;lia
 let h5:=anL (λs=>cQ (bu æ l s g)) (A:=(l.M (·.1)).eraseDups) (D:=D) (Y3 _ _ (bA _)) W (λs _ q=>?_) (λs _ q=>?_)
 .ext d7 jd;omega
 .let F:=O s q;let J:=EE l s g;ext bu cQ;lia
 .let Z:=PY λz=>q (abA.mpr z);let J:=EE l s g;ext bu cQ bg;lia
def Y8{L:Flags.Locker}{sames:LN}(hs:L.sameKinds=sames)(J:sames.Nodup)(left:LN)(l:cE)(z:∀p∈l,p.2<2^sames.L){D:LN}(q:D.Nodup)(j:zy æ l D):
  L.enough left Çg=true↔ ∀g,g<2^sames.L->0<=d7 sames.L Ãs æ l D g:=by
 ext Flags.Locker.enough;rw[hs,jH];constructor
 .intro h g M;let F:=h _ (anN (λk=>!g.testBit (sames.idxOf k)) sames);rw[lY] at F;refine(Y7 sames left l _ g ē z q j).mp F;symm
 .intro h y _;rw[lY];refine(Y7 sames left l y (wo (λb=>!y.Y ŋ) sames.L) ē z q j).mpr (h _ (PX _ _));rw[Y5,eP hb,nt]
end HD
namespace HD
open PySem L2
def gh(n:Nat)(sm:Nat->Nat)(lf:Nat->Int)(l:cE)(D:LN):iD:=(D.M λs=>(s,(List.range (2^n)).M (bu lf l s)),(List.range (2^n)).M (d7 n sm lf l D))
def dec(lf:Nat->Int)(k:Nat):Nat->Int:=λj=>if j=k then lf j-1 else lf j
def Y9(f:Nat->Int)(h:g<G):((List.range G).M f).D g 0=f g:=by
 symm
def qp{G:Nat}{f h:Nat->Int}(e:∀g,g<G->f g=h g):(List.range G).M f=(List.range G).M h:=by
 symm
def EF(f:Nat->Int)(G:Nat):oW ((List.range G).M f)=true↔ ∀g,g<G->0<=f g:=by
 ext oW;simp
theorem Gs(f:Nat->β)(s:Nat):∀D:LN,cq (D.M λx=>(x,f x)) s=if s∈D then some (f s) else none:=by
 intro D;induction D with
 |nil=>exact Á
 |cons x D j=>
  let j:=j;delta cq at j⊢;rw[a7];by_cases h:x=s
  .subst h;rw[List.find?_cons_of_pos Ä,ah Ä];rfl
  .rw[aua (À h),j];by_cases h2:s∈D
   .rw[ah h2,ah (aK _ h2)]
   .rw[ag h2,ag (λz=>(a8.mp z).elim (λe=>h e.symm) h2)]
def Za{β:Type}(f:Nat->β){s:Nat}(v:β){D:LN}(h:s∈D):eT (D.M λx=>(x,f x)) s v=D.M λx=>(x,if x=s then v else f x):=by
 ext eT;let j:((D.M λx=>(x,f x)).any λp=>decide (p.1=s))=true:=by
  symm
 rw[ah j,cj];apply iT;grind
theorem II(f h:Nat->Int){s:Nat}{D:LN}:D.Nodup->s∈D->(∀x∈D,x≠s->h x=f x)->(D.M h).sum=(D.M f).sum-f s+h s:=by
 induction D with
 |nil=>exact @λ_ hs _=>absurd hs Ä
 |cons x D J=>
  intro nd hs e;let(F,nd):=kY.mp nd;rw[a7,a7,gq,gq];by_cases q:x=s
  .subst q;let:(D.M h).sum=(D.M f).sum:=by
    congr 1;apply iT;intro y j;exact e y (aK _ j) λz=>F (z▸ j)
   rw[this];lia
  .let M:=(a8.mp hs).elim (λz=>absurd z.symm q) id;rw[J nd M λy j=>e y (aK _ j),e x Ä q];lia
def Zb{n:Nat}{sm:Nat->Nat}{lf:Nat->Int}{k:Nat}(h:∀b,b<n->sm b≠k)(g:Nat):jx n sm (dec lf k) g=jx n sm lf g:=by
 ext jx;congr 1;apply iT;intro b j;ext dec;symm
def anR{sm:Nat->Nat}{lf:Nat->Int}(q:b<n)(hi:∀a,a<n->sm a=sm b->a=b)(g:Nat):jx n sm Áy g=jx n sm lf g-(if g.testBit b=true then 1 else 0):=by
 ext jx;let:=II (λa=>if g.testBit a=true then lf (sm a) else 0) (λa=>if g.testBit a=true then dec lf Äs (sm a) else 0) (s:=b) (D:=List.range n) R7 Å λx z j=>by
  ext dec;grind
 rw[this];let e:dec lf Äs Äs=lf Äs-1:=by ext dec;rw[ah rfl]
 grind
def PZ(lf:Nat->Int)(l:cE)(s g:Nat):bu Ãh l s g=bu lf l s g+1:=by
 ext bu dec;rw[ah rfl];lia
def xV(lf:Nat->Int)(l:cE){s k:Nat}(h:s≠k)(g:Nat):bu (dec lf k) l s g=bu lf l s g:=by
 ext bu dec;rw[ag h]
section
variable{n:Nat}{sm:Nat->Nat}{lf:Nat->Int}{r:cE}{D:LN}{s B:Nat}
def Zc(j:s∈D)(nd:D.Nodup)(F:∀b,b<n->sm b≠s)(g:Nat):d7 n sm Ãh r D g=d7 n sm lf ß D g+cQ Éj-cQ (bu lf ß s g+oZ g B):=by
 ext d7;rw[Zb F];let:=II (λx=>cQ (bu lf ß x g)) (λx=>cQ (bu Ãh r x g)) nd j λx _ aL=>by
  rw[xV _ _ aL,BE _ _ _ _ Æc]
 ext jd;rw[this,PZ,wm];grind
def Zd{b:Nat}(j:b<n)(hi:∀a,a<n->sm a=sm b->a=b)(q:s∈D)(nd:D.Nodup)(Z:sm b∉D)(g:Nat):d7 n sm Áy r D g=d7 n sm lf ß D g+cQ Éj-cQ (bu lf ß s g-1+oZ g B)-(if g.testBit b=true then 1 else 0):=by
 ext d7;rw[anR j hi];let:=II (λx=>cQ (bu lf ß x g)) (λx=>cQ (bu Áy r x g)) nd q λx F aL=>by
  rw[xV _ _ (λz=>Z Å),BE _ _ _ _ Æc]
 ext jd;rw[this,xV _ _ (λz=>Z Å),wm];grind
def Ze(q:s∉D)(F:∀b,b<n->sm b≠s)(g:Nat):d7 n sm Ãh r D g=d7 n sm lf ß D g:=by
 ext d7 jd;rw[Zb F];congr 2;apply iT;intro x j;let aL:x≠s:=λz=>q (z▸ j);rw[xV _ _ aL,BE _ _ _ _ Æc]
def anS(j:s∉D)(F:∀b,b<n->sm b≠s):gh n sm lf ß D=gh n sm Ãh r D:=by
 ext gh;congr 1
 .apply iT;intro x q;let aL:x≠s:=λz=>j (z▸ q);congr 1;exact qp λg _=>by rw[xV _ _ aL,BE _ _ _ _ Æc]
 .exact qp λg _=>(Ze j F g).symm
def Zf:uB 0=0:=rfl
def Zg(b:Nat):uB (2^b)= -1:=by
 ext uB;let:0<2^b:=abD b;grind
def P0(f:Nat->Int)(G B same:Nat):jb ((List.range G).M f) B same=(List.range G).M λg=>f g+uB same+oZ g B:=by
 ext jb;symm
def Zh(f h:Nat->Int)(G B same:Nat):jV ((List.range G).M f) ((List.range G).M h) B same=(List.range G).M λg=>h g+cQ (f g)-cQ (f g+uB same+oZ g B)-lN (wa g same):=by
 ext jV;rw[ak,ik,P0];symm
def Zi(j:s∈D)(nd:D.Nodup)(F:∀b,b<n->sm b≠s):jV ((List.range (2^n)).M Çp) (gh n sm lf ß D).2 B 0=(List.range (2^n)).M (d7 n sm Ãh r D):=by
 ext gh;rw[Zh];exact qp λg _=>by
  rw[Zc (B:=B) j nd F,Zf,ans,show lN false=0 from rfl,Int.add_zero,Int.sub_zero]
def P1(j:b<n)(hi:∀a,a<n->sm a=sm b->a=b)(q:s∈D)(nd:D.Nodup)(z:sm b∉D):jV ((List.range (2^n)).M Çp) (gh n sm lf ß D).2 B (2^b)=(List.range (2^n)).M (d7 n sm Áy r D):=by
 ext gh;rw[Zh];exact qp λg _=>by
  rw[Zd (B:=B) j hi q nd z,Zg,anr];rfl
def anT(j:s∈D)(nd:D.Nodup)(F:∀b,b<n->sm b≠s):sN (gh n sm lf ß D) s B 0 ((List.range (2^n)).M Çp)=gh n sm Ãh r D:=by
 ext sN;rw[Zi j nd F];ext gh;rw[Za _ _ j,P0];congr 1;apply iT;intro x q;congr 1;by_cases h:x=s
 .rw[ah h,h];exact qp λg _=>by rw[PZ,wm,Zf];symm
 .rw[ag h];exact qp λg _=>by rw[xV _ _ h,BE _ _ _ _ (eE h)]
def anU{b:Nat}(q:b<n)(hi:∀a,a<n->sm a=sm b->a=b)(j:s∈D)(nd:D.Nodup)(Z:sm b∉D):sN (gh n sm lf ß D) s B (2^b) ((List.range (2^n)).M Çp)=gh n sm Áy r D:=by
 ext sN;rw[P1 q hi j nd Z];ext gh;rw[Za _ _ j,P0];congr 1;apply iT;intro x F;congr 1;let U:x≠sm b:=λz=>Z (z▸ F);by_cases h:x=s
 .rw[ah h,h];exact qp λg _=>by rw[xV _ _ (h▸ U),wm,Zg];lia
 .rw[ag h];exact qp λg _=>by rw[xV _ _ U,BE _ _ _ _ (eE h)]
end
abbrev cK(sames:LN):Nat->Nat:=λb=>sames.D b 0
structure o7(sames left:LN)(l:cE)(D:LN):Prop where
 nd:D.Nodup
 BF:zy æ l D
 bits:∀p∈l,p.2<2^sames.L
 sgn:∀p∈l,∀b,b<sames.L->cK sames b≠p.1
 sd:∀b,b<sames.L->cK sames b∉D
 all:∀g,g<2^sames.L->0<=d7 sames.L ć æ l D g
def uN(h:0<left.D f 0):bg ě=dec æ f:=by
 let q:f<left.L:=by
  grind
 funext j;ext bg dec Flags.less1;grind
def IJ(nd:sames.Nodup)(q:b<sames.L):∀a,a<sames.L->cK sames a=cK sames b->a=b:=λa j e=>by
 delta cK at e;rw[ij,ij,cI j,cI q] at e;exact(aaW nd).mp e
def cnt_cons(r:cE)(s B:Nat):jw ß s=jw r s+1:=by
 ext jw;simp
def IK(r:cE)(B:Nat)(h:s≠x):jw ß x=jw r x:=by
 ext jw;symm
def anV(n:Nat)(sm:Nat->Nat)(lf:Nat->Int):jx n sm lf 0=0:=by
 ext jx;exact PV _ λb _=>by rw[Nat.zero_testBit,ag eN]
def anW(q:b<n):jx n sm lf (2^b)=lf Äs:=by
 ext jx;let:=II (λ_=>(0:Int)) (λa=>if (2^b).testBit a=true then lf (sm a) else 0) (s:=b) (D:=List.range n) R7 Å λx z j=>by
  grind
 rw[this,PV _ λ_ _=>rfl,at8,ah rfl];symm
def P2(z:Int):0<=cQ z:=by ext cQ;split <;> lia
theorem Zj(lf:Nat->Int)(l:cE)(g:Nat):∀D:LN,0<=jd lf l g D:=by
 intro D;induction D with
 |nil=>exact JV _
 |cons s D q=>
  let j:=q;let h2:=P2 (ė g);delta jd at j⊢;rw[a7,gq];lia
theorem anY(lf:Nat->Int)(l:cE)(g:Nat){s:Nat}{D:LN}:s∈D->cQ (ė g)<=jd lf l g D:=by
 induction D with
 |nil=>exact @λh=>absurd h Ä
 |cons x D z=>
  intro h;let j:=Zj lf l g D;let h2:=P2 (bu lf l x g);rcases a8.mp h with rfl|h
  .delta jd at j⊢;rw[a7,gq];lia
  .let q:=z h;delta jd at j q⊢;rw[a7,gq];lia
def anZ{sm:Nat->Nat}(hs:s∈D)(h:0<=d7 n sm Åc r D 0):0<left.D s 0:=by
 apply aub λz=>?_;let j:=anY Åc r 0 hs;let h2:=EE r s 0;let q:=PZ æ r s 0;delta d7 at h;rw[anV] at h;let F:bu æ r s 0=(jw r s:Int)-kU r s 0:=by ext bu bg;rw[z];rfl
 delta cQ at j;omega
def an0(j:b<n)(h:0<=d7 n sm (dec æ Äs) r D (2^b)):0<left.D Äs 0:=by
 let q:=Zj (dec æ Äs) r (2^b) D;delta d7 at h;rw[anW j] at h;let:dec æ Äs Äs=((left.D Äs 0:Nat):Int)-1:=by ext dec bg;rw[ah rfl]
 lia
section
variable{L:Flags.Locker}{sames left:LN}{r:cE}{D:LN}{s B:Nat}
def o7.sign(c:Àe ß D)(z:0<left.D s 0)(h:∀g,g<2^sames.L->0<=d7 sames.L ć Åc r D g):o7 sames (Flags.less1 left s) r D:=by
 apply(c.nd,λx F=>?_,λp j=>c.bits p (aK _ j),λp j=>c.sgn p (aK _ j),c.sd,by rw[uN z];exact h);rw[uN z];let:=c.BF x F;ext dec;by_cases q:x=s
 .subst q;rw[cnt_cons] at this;rw[ah rfl];lia
 .rw[IK _ _ (eE q)] at this;rw[ag q];exact this
def o7.same(c:Àe ß D){b:Nat}(M:b<sames.L)(q:0<left.D į 0)(hs:s∈D)(h:∀g,g<2^sames.L->0<=d7 sames.L ć (dec æ į) r D g):o7 sames (Flags.less1 left į) r D:=by
 apply(c.nd,λx F=>?_,λp j=>c.bits p (aK _ j),λp j=>c.sgn p (aK _ j),c.sd,by rw[uN q];exact h);rw[uN q];let:=c.BF x F;let O:x≠s:=λz=>F (z▸ hs);rw[IK _ _ (eE O)] at this;ext dec;by_cases U:x=cK sames b
 .rw[ah U];let J:jw r x=0:=PY λz=>by
   let(p,j,e):=bG.mp z;exact c.sgn p (aK _ j) b M (by rw[<-U];exact e.symm)
  rw[J];let:bg left x=((left.D į 0:Nat):Int):=by rw[U];rfl
  lia
 .rw[ag U];exact this
def BG(q:L.sameKinds=sames)(nd:sames.Nodup)(c:Àe ß D)(j:0<left.D f 0)(hd:zy (dec æ f) r D):L.enough ě Âd=true↔ ∀g,g<2^sames.L->0<=d7 sames.L ć (dec æ f) r D g:=by
 let:=Y8 q nd ě r (λp z=>c.bits p (aK _ z)) c.nd (by rw[uN j];exact hd);rw[uN j] at this;exact this
def BH(L:Flags.Locker)(sames left:LN)(s B:Nat)(r:cE):Nat:=(((dy sames (s,B)).sign::if 0<Flags.lacks left (((s,B)::r).M ø) (dy sames (s,B)).sign then (dy sames (s,B)).may else []).J λ(f:Nat)=>decide (0<left.D f 0)&&L.enough ě Âd).headD 0
def Zk(h:(decide (0<left.D s 0)&&L.enough (Flags.less1 left s) Âd)=true):BH L sames left s B r=s:=by
 ext BH;rw[rK,ah (show(decide (0<left.D (dy sames (s,B)).sign 0)&&L.enough (Flags.less1 left (dy sames (s,B)).sign) Âd)=true from h)];rfl
def an1:L.fill (((s,B)::r).M ø) left=BH L sames left s B r::L.fill Âd (Flags.less1 left (BH L sames left s B r)):=rfl
def an2(sames:LN)(st:iD)(s B:Nat)(row:LI)(P:Nat->Bool):∀bs:LN,(∀b∈bs,oW (jV row st.2 B (2^b))=P į)->(∃b∈bs,P į=true)->
  ∃b∈bs,wc sames st s B row bs=Α (cK sames b,sN st s B (2^b) row)/\P į=true/\((bs.M ć).J P).headD 0=cK sames b:=by
 intro bs;induction bs with
 |nil=>
  intro _ h;let(b,U,_):=h;cases U
 |cons b bs ih=>
  intro F h;let q:=F b Ä;ext wc;by_cases j:P į=true
  .rw[q,ah j];apply(b,by simp,rfl,j,?_);rw[a7,B6 j];rfl
  .rw[q,ag j];let(x,W,Z):=h;let xg:=(a8.mp W).elim (λz=>absurd (z▸ Z) j) id;let(y,Y,J,M,O):=ih (λz hz=>F z (aK _ hz)) ⟨x,xg,Z⟩;apply(y,aK _ Y,J,M,?_);rw[a7,B7 j];exact O
def an3(O:L.sameKinds=sames)(nd:sames.Nodup)(c:Àe ß D):
  ∃f,oX sames Ħ s B=Α (f,gh sames.L ć (bg ě) r D)/\o7 sames ě r D/\BH L sames left s B r=f:=by
 let U:=c.sgn (s,B) Ä;by_cases hs:s∈D
 .let Z:oX sames Ħ s B=if oW (jV ((List.range (2^sames.L)).M Ât) (gh sames.L ć æ ß D).2 B 0)=true then some (s,sN Ħ s B 0 ((List.range (2^sames.L)).M Ât))
    else wc sames Ħ s B ((List.range (2^sames.L)).M Ât) (qf sames.L B):=by
   ext oX;let:cq (gh sames.L ć æ ß D).1 s=Α ((List.range (2^sames.L)).M Ât):=(Gs (λx=>(List.range (2^sames.L)).M (bu æ ß x)) s D).R (ah hs);rw[this]
  rw[Zi hs c.nd U,anT hs c.nd U] at Z;let Gn:zy Åc r D:=λx W=>by
   let:=c.BF x W;let qt:x≠s:=λz=>W (z▸ hs);rw[IK _ _ (eE qt)] at this;ext dec;symm
  by_cases aD:oW ((List.range (2^sames.L)).M (d7 sames.L ć Åc r D))=true
  .rw[ah aD] at Z;let aD:=(EF _ _).mp aD;let j:=anZ hs (aD 0 (abD _));apply(s,by rw[Z,uN j],c.sign j aD,Zk ?_);rw[eP j,(BG O nd c j Gn).mpr aD];rfl
  .rw[ag aD] at Z;let aD:=λz=>aD ((EF _ _).mpr z);let Zm:¬PR sames.L ć æ ß D s B:=λz=>aD λg J=>by
    rw[Zc (B:=B) hs c.nd U];exact z g J
   let hex:=(anE _ _ _ r hs c.all).resolve_left Zm;let Hu:∀b∈qf sames.L B,b<sames.L/\B.testBit b=true:=λb q=>by
    delta qf at q;let(h1,h2):=iz.mp q;rw[zx] at h2;symm
   let P3:∀b,b<sames.L->0<left.D į 0->zy (dec æ į) r D:=λb q j x W=>by
    let:=c.BF x W;let qt:x≠s:=λz=>W (z▸ hs);rw[IK _ _ (eE qt)] at this;ext dec;by_cases uM:x=cK sames b
    .rw[ah uM];let e0:jw r x=0:=PY λz=>by
      let(p,hp,e):=bG.mp z;exact c.sgn p (aK _ hp) b q Î
     rw[e0];let:bg left x=((left.D į 0:Nat):Int):=by rw[uM];rfl
     omega
    .symm
   let hP:∀b,b<sames.L->oW (jV ((List.range (2^sames.L)).M Ât) (gh sames.L ć æ ß D).2 B (2^b))=(decide (0<left.D į 0)&&L.enough (Flags.less1 left į) Âd):=λb q=>by
    rw[P1 q (IJ nd q) hs c.nd (c.sd b q),qx,EF,jG,lY];constructor
    .intro h;let j:=an0 q (h (2^b) (Nat.pow_lt_pow_right Ñ q));exact(j,(BG O nd c j (P3 b q j)).mpr h)
    .rintro⟨j,h⟩;exact(BG O nd c j (P3 b q j)).mp h
   let(b0,hb0,an5):=hex;let F:b0<sames.L:=by
    apply Nat.lt_of_not_le λz=>?_;let hB:=c.bits (s,B) Ä;let:B.testBit b0=false:=B5 (j3 hB (ym Ñ z));symm
   let(b,q,e1,e2,e3):=an2 sames Ħ s B ((List.range (2^sames.L)).M Ât) (λf=>decide (0<left.D f 0)&&L.enough ě Âd) (qf sames.L B) (λb q=>hP b (Hu b q).1)
    ⟨b0,iz.mpr ⟨À F,by rw[zx];exact hb0⟩,by
     rw[<-hP b0 F,P1 F (IJ nd F) hs c.nd (c.sd b0 F),EF];intro g J;rw[Zd (B:=B) F (IJ nd F) hs c.nd (c.sd b0 F)];exact an5 g J⟩
   let Y:=(Hu b q).1;let e2:=e2;let M:=e2;rw[jG,lY] at M;let jP:=(BG O nd c M.1 (P3 b Y M.1)).mp M.2;apply(cK sames b,?_,c.E Y M.1 hs jP,?_)
   .rw[Z,e1,anU Y (IJ nd Y) hs c.nd (c.sd b Y),uN M.1]
   .let hnp:¬(decide (0<left.D (dy sames (s,B)).sign 0)&&L.enough (Flags.less1 left (dy sames (s,B)).sign) Âd)=true:=λz=>by
     let z:=z;rw[jG,lY] at z;exact aD ((BG O nd c z.1 Gn).mp z.2)
    let an7:0<Flags.lacks left (((s,B)::r).M ø) (dy sames (s,B)).sign:=by
     apply aub λz=>Zm λg J=>?_;let z:Flags.lacks left (((s,B)::r).M ø) s=0:=z;rw[Y6] at z;let h1:=EE r s g;let h2:=wm æ r s B g;let h3:=c.all g J;let h4:bu æ r s g+1<=0:=by
      rw[cnt_cons] at z;ext bu bg;lia
     let h5:=P2 (bu æ ß s g);rw[h2] at h5⊢;rw[show bu æ r s g+1-oZ g B+oZ g B=bu æ r s g+1 by simp_all];let h6:cQ (bu æ r s g+1)=0:=by ext cQ;rw[ag Å]
     lia
    ext BH;rw[rK,ag hnp,ah an7];exact e3
 .let Z:oX sames Ħ s B=Α (s,gh sames.L ć æ ß D):=by
   ext oX;let:cq (gh sames.L ć æ ß D).1 s=Β:=(Gs (λx=>(List.range (2^sames.L)).M (bu æ ß x)) s D).R (ag hs);symm
  let j:0<left.D s 0:=by
   let:=c.BF s hs;rw[cnt_cons] at this;delta bg at this;lia
  let jP:∀g,g<2^sames.L->0<=d7 sames.L ć Åc r D g:=λg J=>by
   rw[Ze (B:=B) hs U];exact c.all g J
  let cs:=c.sign j jP;apply(s,by rw[Z,uN j,anS hs U],cs,Zk ?_);let hd:=cs.BF;rw[uN j] at hd;rw[eP j,(BG O nd c j hd).mpr jP];rfl
end
section
variable{L:Flags.Locker}{sames:LN}{D:LN}
def an8(W:L.sameKinds=sames)(nd:sames.Nodup)(l:cE):∀(b7:cE)(left:LN),Àe (l++b7) D->
  ∃fs z,oY sames (gh sames.L ć æ (l++b7) D) l=Α (fs,gh sames.L ć (bg z) b7 D)/\o7 sames z b7 D/\L.fill ((l++b7).M ø) left=fs++L.fill (b7.M ø) z:=by
 induction l with
 |nil=>exact @λb7 left c=>⟨[],left,Á,c,Á⟩
 |cons q l Y=>
  let(s,B):=q;intro b7 left c;let(f,j,F,M):=an3 W nd (show o7 sames left ((s,B)::(l++b7)) D from c);let(fs,z,O,J,U):=Y b7 ě F;apply(f::fs,z,?_,J,?_)
  .ext oY;let j:oX sames (gh sames.L ć æ ((s,B)::l++b7) D) (s,B).1 (s,B).2=Α (f,gh sames.L ć (bg ě) (l++b7) D):=j;rw[j];dsimp only;rw[O]
  .let:=an1 (L:=L) (sames:=sames) (left:=left) (r:=l++b7) (s:=s) (B:=B);rw[M,U] at this;exact this
def an9(M:L.sameKinds=sames)(nd:sames.Nodup)(ps:List cE):∀(left:LN),Àe ps.flatten D->
  ∃x,n9 sames (gh sames.L ć æ ps.flatten D) ps=Α x/\L.fill (ps.flatten.M ø) left=x.1.flatten:=by
 induction ps with
 |nil=>exact @λleft c=>⟨_,Á,Á⟩
 |cons p ps O=>
  intro left c;let(fs,Z,q,j,z):=an8 M nd p ps.flatten left c;let(x,F,J):=O Z j;apply((fs::x.1,x.2),?_,?_)
  .ext n9;rw[R4,q];dsimp only;rw[F]
  .rw[R4,z,J];rfl
end
theorem aoa:∀hs:bf,Flags.pieces Àz hs.flatten=hs:=by
 intro hs;induction hs with
 |nil=>exact Á
 |cons h hs j=>
  rw[a7,R4];ext Flags.pieces;rw[List.take_left,List.drop_left,j]
theorem AE{β:Type}{t:List (Nat×β)}(nd:(t.M (·.1)).Nodup){p:Nat×β}(h:p∈t):cq t p.1=Α p.2:=by
 induction t with
 |nil=>cases h
 |cons x t q=>
  let(j,nd):=kY.mp nd;ext cq;rcases a8.mp h with rfl|h
  .simp
  .let:x.1≠p.1:=λz=>j Å;rw[aua Å];exact q nd h
theorem aob(l:cE)(s g:Nat):((sJ g ((l.J λp=>decide (p.1=s)).M (·.2)):Nat):Int)=kU l s g:=by
 ext sJ kU;generalize l.J (λp=>decide (p.1=s))=M;induction M with
 |nil=>rfl
 |cons p M j=>
  rw[a7,a7,gq,<-j];ext oZ lN;grind
theorem Zn(l:cE)(s:Nat):jw l s=(l.M (·.1)).count s:=by
 ext jw;induction l with
 |nil=>rfl
 |cons p l j=>
  rw[a7,List.count_cons];by_cases h:p.1=s
  .rw[B6 (À h),dg,j];simp[h]
  .rw[B7 (À h),j];simp[h]
theorem aoc(G:Nat)(h:Nat->Nat->Int)(D:LN):∀(f:Nat->Int),sM G ((List.range G).M f) (D.M λs=>(s,(List.range G).M (h s)))=(List.range G).M λg=>f g-(D.M λs=>cQ (h s g)).sum:=by
 induction D with
 |nil=>exact @λf=>qp λg _=>by rw[mJ,List.sum_nil];symm
 |cons s D q=>
  intro f;let e:zk G ((List.range G).M f) ((List.range G).M (h s))=(List.range G).M λg=>f g-cQ (h s g):=by
   ext zk;exact qp λg j=>by rw[Y9 f j,Y9 _ j]
  rw[a7];show sM G (zk G ((List.range G).M f) ((List.range G).M (h s))) _=_;rw[e,q];exact qp λg _=>by rw[a7,gq];lia
abbrev jX(ms:aI):LN:=ms.M λm=>m.copies.toNat
theorem IL{ms:aI}(hc:∀m∈ms,0<=m.copies)(s:Nat):uu ms s=bg (jX ms) s:=by
 ext uu bg jX;cases e:ms[s]? with
 |none=>
  rw[ij,ij,bz,e];rfl
 |some m=>
  rw[ij,ij,bz,e];let:=hc m (bj e);show m.copies=((m.copies.toNat:Nat):Int);lia
theorem aod(hc:∀m∈ms,0<=m.copies)(sames:LN)(g:Nat):sL ms sames g=jx sames.L ć Ő g:=by
 ext sL p7 jx;generalize List.range sames.L=M;induction M with
 |nil=>rfl
 |cons b M j=>
  let e:=IL hc į;delta uu at e;rw[a7,gq,<-j];by_cases h:zh g b=true
  .rw[B6 h,a7,gq,ah (by rw[<-zx];exact h),e]
  .rw[B7 h,ag (by rw[<-zx];exact h),R3]
def P4(rows j:bf):(oa rows j).flatten=ft rows j:=by
 rfl
def o8(ms:aI)(rows:bf):LN:=(jU ms rows.flatten).M (·.1)
def P5(ms:aI)(rows:bf):(ft rows ŏ).M (·.1)=rows.flatten:=XA rows ŏ (XD ms rows) (Pc ms rows)
def aoe(h:p∈jU ms flat):p.2=(flat.count p.1:Int)-uu ms p.1:=by
 delta jU at h;let(q,j,e):=Jz.mp h;delta p9 at e;split at e
 .let e:=(aQ e).symm;subst e;let z:=AE (HF flat) j;let h2:=WX flat q.1;symm
 .cases e
def aof(hc:∀m∈ms,0<=m.copies)(h:s∉(jU ms flat).M (·.1)):(flat.count s:Int)<=uu ms s:=by
 by_cases hs:flat.Y s=true
 .let j:=WY flat s;rw[hs] at j;let(n,F):=JB.mp j;let h2:=WX flat s;rw[F] at h2;let h2:=h2;let J:(s,n)∈gX flat:=by
   delta cq at F;cases e:(gX flat).find? λp=>decide (p.1=s) with
   |none=>symm
   |some q=>
    grind
  apply Int.not_lt.mp λz=>h ?_;apply bG.mpr ⟨(s,(n:Int)-uu ms s),?_,Á⟩;ext jU;apply Jz.mpr ⟨(s,n),J,?_⟩;ext p9;symm
 .let:flat.count s=0:=List.count_eq_zero.mpr (λz=>hs Å);rw[this,IL hc];ext bg;symm
def P6(hc:∀m∈ms,0<=m.copies)(rows:bf):qg ms rows=gh (bh ms).L Ès Ő ü Ż:=by
 let q:Eu ms rows=(o8 ms rows).M λs=>(s,(List.range (2^(bh ms).L)).M (bu Ő ü s)):=by
  ext Eu oU o8;rw[cj];apply iT;intro p z;congr 1;ext HJ;apply qp λg _=>?_;rw[W4,aob,aoe z,IL hc];ext bu;rw[Zn,P5]
 ext qg;rw[q];ext gh;congr 1;let j:(List.range (2^(bh ms).L)).M (sL ms ı)=(List.range (2^(bh ms).L)).M (jx (bh ms).L Ès Ő):=qp λg _=>aod hc _ g;rw[j,aoc];rfl
end HD
namespace HD
open PySem L2 JM
def IM{L:Flags.Locker}{ms:aI}(hk:L.kinds=ms.M bJ){i:Nat}(hi:i<ms.L):L.kinds[i]? =Α (bJ ϛ):=by
 symm
def Zo{L:Flags.Locker}{ms:aI}(hk:L.kinds=ms.M bJ){i:Nat}(hi:i<ms.L):(L.kinds[i]?).M Flags.Kind.role=Α (qZ ϛ):=by
 rw[IM hk hi];rfl
def P7{L:Flags.Locker}{ms:aI}(hk:L.kinds=ms.M bJ):L.sameKinds=bh ms:=by
 ext Flags.Locker.sameKinds bh;let z:L.kinds.L=ms.L:=by rw[hk,ak]
 rw[z];apply JW;intro i hi;let hi:i<ms.L:=À hi
 rw[Zo hk hi];ext qZ;by_cases q:(ms.D i eW).role=0
 .rw[ah q,q];rfl
 .rw[ag q];by_cases j:(ms.D i eW).role=1
  .rw[ah j,j];rfl
  .rw[ag j,gC j]
def aog{L:Flags.Locker}{ms:aI}(hk:L.kinds=ms.M bJ){s:Nat}(hs:s∈bh ms):L.points s=(mr ms s).toNat:=by
 delta bh at hs;let(j,h2):=iz.mp hs;simp at j;let h2:(ms.D s eW).role=1:=À h2
 ext Flags.Locker.points;rw[Zo hk j];ext qZ;rw[ag Î,ah h2];rfl
theorem aoh(P:Nat->Bool)(l:LN):l.J P=((List.range l.L).J λb=>P (l.D b 0)).M λb=>l.D b 0:=by
 induction l with
 |nil=>exact Á
 |cons x l j=>
  let j:=j;rw[dg,zW,rK,rK,wI];let e:((λb=>P ((x::l).D b 0))∘Nat.succ)=λb=>P (l.D b 0):=rfl;rw[e];by_cases h:P x=true
  .rw[ah h,ah (show P ((x::l).D 0 0)=true from h),a7,cj,j];rfl
  .rw[ag h,ag (show ¬P ((x::l).D 0 0)=true from h),cj,j];rfl
def Zp(ms:aI)(sames row:LN)(i:Nat):ur ms sames row i=wo (Be ms sames row i) sames.L:=rfl
def aoi{L:Flags.Locker}{ms:aI}(hk:L.kinds=ms.M bJ)(mo:xP ms)(row:LN)(i:Nat):
  dy ı (row.D i 0,ur ms ı row i)=⟨row.D i 0,L.sameKinds.J λ(f:Nat)=>decide (L.points f<=i)&&row.D (L.points f-1) 0==row.D i 0⟩:=by
 ext dy;dsimp only;congr 1;rw[P7 hk,aoh];congr 1;ext qf;apply JW;intro b j;let j:b<(bh ms).L:=À j
 let q:(bh ms).D b 0∈bh ms:=by
  rw[ij,cI j];exact List.getElem_mem j
 rw[zx,Zp,Y5,eP j,nt,aog hk q];let F:=mo.pos _ q;ext Be;let z:decide (mr ms ((bh ms).D b 0)<=(i:Int))=decide ((mr ms ((bh ms).D b 0)).toNat<=i):=by
  rw[JU];simp
 rw[z,Bool.beq_eq_decide_eq]
theorem Zq{L:Flags.Locker}{ms:aI}(hk:L.kinds=ms.M bJ)(mo:xP ms):∀rows:bf,L.spots rows=(ft rows ŏ).M (dy ı):=by
 intro rows;induction rows with
 |nil=>exact Á
 |cons r rows j=>
  let j:=j;delta Flags.Locker.spots ft gB at j⊢;rw[z7,j,a7,zU,z7,bH];congr 1;ext rk;let e:r=(List.range r.L).M λi=>r.D i 0:=by
   let:=vU (l:=r) (g:=λx=>x) (d:=0);rw[abw] at this;exact this.symm
  let q:r.zip ((List.range r.L).M (ur ms ı r))=(List.range r.L).M λi=>(r.D i 0,ur ms ı r i):=by
   apply yl;intro i;by_cases hi:i<r.L
   .rw[bz,RW hi,JT.mpr (show r[i]? =Α (r.D i 0,ur ms ı r i).1/\((List.range r.L).M (ur ms ı r))[i]? =Α (r.D i 0,ur ms ı r i).2 from Ϧ)]
    .rfl
    .rw[ij,cI hi];rfl
    .rw[bz,RW hi];rfl
   .rw[yk (by rw[List.length_zip];grind),yk (by rw[ak,ik];lia)]
  rw[q,cj];apply iT;intro i _;exact(aoi hk mo r i).symm
def Zr(ms:aI):(bh ms).Nodup:=List.Nodup.sublist abE R7
structure uO(ms:aI):Prop where
 mo:xP ms
 cp:∀m∈ms,0<=m.copies
def xX(ms:aI)(rows:bf):Prop:=∀r∈rows,∀s∈r,kJ ms s=true
def Zs(h:kJ ms s=true):s∉bh ms:=λz=>by
 delta bh at z;let z:(ms.D s eW).role=1:=by simpa using (iz.mp z).2
 let h:(ms.D s eW).role=0:=by delta kJ at h;simpa using h
 lia
def Zt(ms:aI)(rows:bf):∀p∈ft rows ŏ,p.2<2^(bh ms).L:=λp j=>by
 delta ft gB at j;let(q,J,j):=jg.mp j;let F:=(JA J).2;let(r,_,e):=bG.mp F;let h2:=(JA j).2;rw[<-e] at h2;delta rk at h2;let(i,_,z):=bG.mp h2;rw[<-z,Zp];exact PX _ _
def Zu(g:uO ms)(rows:bf):zy Ő ü Ż:=λs hs=>by
 rw[Zn,P5,<-IL g.cp];exact aof g.cp hs
def aoj(g:uO ms)(sg:xX ms rows)(h:∀q,q<2^(bh ms).L->0<=d7 (bh ms).L Ès Ő ü Ż q):o7 ı (jX ms) ü Ż:=by
 let O:∀b,b<(bh ms).L->cK ı b∈bh ms:=λb j=>by
  symm
 let z:∀s∈rows.flatten,kJ ms s=true:=λs hs=>by
  let(r,hr,hs):=R1.mp hs;exact sg r hr s hs
 apply(Pd _ _,Zu g rows,Zt ms rows,λp J b j e=>?_,λb j hz=>?_,h)
 .let F:p.1∈rows.flatten:=by rw[<-P5 ms rows];exact bG.mpr ⟨p,J,Á⟩
  exact Zs (z _ F) (e▸ O b j)
 .delta o8 at hz;let(q,M,e):=bG.mp hz;exact Zs (z _ (XE M)) Å
def IP{L:Flags.Locker}{ms:aI}(hk:L.kinds=ms.M bJ)(g:uO ms)(rows:bf):L.enough L.allCopies (L.spots rows)=true↔ ∀q,q<2^(bh ms).L->0<=d7 (bh ms).L Ès Ő ü Ż q:=by
 rw[Zq hk g.mo,show L.allCopies=jX ms by ext Flags.Locker.allCopies jX;rw[hk,cj];rfl];exact Y8 (P7 hk) (Zr ms) _ _ (Zt ms rows) (Pd _ _) (Zu g rows)
def Zv(g:uO ms)(rows:bf):(qg ms rows).2.any (λz=>decide (z<0))=false↔ ∀q,q<2^(bh ms).L->0<=d7 (bh ms).L Ès Ő ü Ż q:=by
 rw[P6 g.cp];let:=EF (d7 (bh ms).L Ès Ő ü Ż) (2^(bh ms).L);rw[<-this];ext oW gh;simp
def P8{L:Flags.Locker}{ms:aI}(hk:L.kinds=ms.M bJ)(g:uO ms){rows:bf}(sg:xX ms rows):o4 ms rows=Α (if L.canShowAll rows=true then some (L.displayed rows) else none):=by
 let W:(∀q,q<2^(bh ms).L->0<=d7 (bh ms).L Ès Ő ü Ż q)->∃x,n9 ı Çc Äc=Α x/\x.1.M List.length=rows.M List.length/\L.displayed rows=x.1:=λh=>by
  let c:=aoj g sg h;rw[<-P4] at c;let(x,j,F):=an9 (L:=L) (P7 hk) (Zr ms) Äc (jX ms) c;rw[P4,<-P6 g.cp] at j;rw[P4,<-Zq hk g.mo] at F;let J:x.1.M List.length=rows.M List.length:=by
   rw[Yu _ _ _ _ j];ext oa gB;rw[cj];apply yl;intro i;rw[bz,bz,aby,bz];cases er:rows[i]? with
   |none=>symm
   |some r=>
    rw[JT.mpr (show rows[i]? =Α (r,r).1/\rows[i]? =Α (r,r).2 from⟨er,er⟩)];ext rk;simp
  apply(x,j,J,?_);let ee:=(IP hk g rows).mpr h;ext Flags.Locker.displayed Flags.Locker.display;rw[ah ee,show L.allCopies=jX ms by ext Flags.Locker.allCopies jX;rw[hk,cj];rfl,F,<-J];exact aoa x.1
 let O:L.canShowAll rows=L.enough L.allCopies (L.spots rows):=rfl;ext o4;by_cases J:jU ms rows.flatten=[]
 .rw[ah J];let U:o8 ms rows=[]:=by ext o8;rw[J];rfl
  let h:∀q,q<2^(bh ms).L->0<=d7 (bh ms).L Ès Ő ü Ż q:=λq _=>by
   rw[U];ext d7 jd jx;rw[mJ,List.sum_nil,Int.sub_zero];generalize List.range (bh ms).L=M;induction M with
   |nil=>simp
   |cons b M Z=>
    rw[a7,gq];let:(0:Int)<=if q.testBit b=true then bg (jX ms) (cK ı b) else 0:=by
     ext bg;lia
    omega
  let(x,j,_,F):=W h;let en:n9 ı Çc Äc=Α ((oa rows ŏ).M (λp=>p.M (·.1)),qg ms rows):=by
   let h1:∀(l:cE)(st:iD),st.1=[]->oY ı st l=Α (l.M (·.1),st):=by
    intro l;induction l with
    |nil=>intro st _;rfl
    |cons p l Z=>
     intro st rT;ext oY oX;rw[rT,show cq ([]:List (Nat×LI)) p.1=Β from rfl];grind
   let h2:∀(ps:List cE)(st:iD),st.1=[]->n9 ı st ps=Α (ps.M (λp=>p.M (·.1)),st):=by
    intro ps;induction ps with
    |nil=>intro st _;rfl
    |cons p ps Z=>
     intro st rT;ext n9;grind
   apply h2 _ _ ?_;rw[P6 g.cp,U];rfl
  let ex:x.1=rows:=by
   rw[en] at j;rw[<-aQ j];ext oa gB;rw[cj];apply yl;intro i;rw[bz,aby,bz];cases er:rows[i]? with
   |none=>symm
   |some r=>
    rw[JT.mpr (show rows[i]? =Α (r,r).1/\rows[i]? =Α (r,r).2 from⟨er,er⟩)];show some ((r.zip (rk ms ı r)).M (·.1))=Α r;rw[List.map_fst_zip (by ext rk;rw[ak,ik];exact bA _)]
  rw[O,ah ((IP hk g rows).mpr h),F,ex]
 .rw[ag J];by_cases Y:(qg ms rows).2.any (λz=>decide (z<0))=true
  .rw[ah Y,O,ag (λz=>?_)];let:=(Zv g rows).mpr ((IP hk g rows).mp z);symm
  .rw[ag Y];let h:=(Zv g rows).mp Å;let(x,j,_,F):=W h;rw[j,O,ah ((IP hk g rows).mpr h),F];rfl
structure sV(ms:aI):Prop where
 kv:∀m∈ms,Kv m
 pw:ms.Pairwise λp x=>iY p x=true
 nm:(ms.J isSign).Pairwise λa b=>a.name≠b.name
def IQ(q:bq t)(h:gM t=Α x):sV x.2:=by
 delta gM at h;split at h
 .rename_i l r e;cases e1:fJ (codes "locker") l with
  |none=>rw[e1,DP] at h;cases h
  |some n=>
   cases e2:hJ r with
   |none=>rw[e2,DO] at h;cases h
   |some ms=>
    rw[e1,e2] at h;let h:(if (oN ms&&pY ms)=true then some (n,ms) else none)=Α x:=h;split at h
    .rename_i j;let:=aQ h;subst this;let hr:=λw z=>by
      delta kH at e;split at e
      .let e:=aQ e;let:w∈(aN 10 t).dropLast:=by rw[e];exact aK _ z
       exact qS 10 q w (B1 _ this)
      .symm
     let kv:=Oo hr e2;let(j,hd):=tw.mp j;apply(kv,?_,?_)
     .delta oN at j;split at j
      .symm
      .exact(Oq kv).mp j
     .delta pY at hd;let(hd,_):=tw.mp hd;simp at hd;let:=Os.mp hd;rw[JS] at this;apply this.imp λ{a b}F e=>?_;rw[Ot,eP e] at F;symm
    .symm
 .cases h
theorem Zw:∀{l:LI}{lo hi:Int},l.Pairwise (· < ·)->(∀x∈l,lo<=x/\x<=hi)->l≠[]->(l.L:Int)<=hi-lo+1
 |[],_,_,_,_,h=>absurd rfl h
 |[x],lo,hi,_,h,_=>by
  let:=h x Ä;simp only[abF];lia
 |x::y::l,lo,hi,pw,h,_=>by
  let(j,h2):=JR.mp pw;let q:=h x Ä;let:=Zw (l:=y::l) (lo:=x+1) (hi:=hi) h2 (λz hz=>⟨by let:=j z hz;assumption,(h z (aK _ hz)).2⟩) Ä;rw[dg];lia
def aok{ms:aI}(f:sV ms):(bh ms).L<=4:=by
 by_cases O:bh ms=[]
 .rw[O];decide
 let F:∀i∈bh ms,i<ms.L/\(ms.D i eW).role=1:=λi hi=>by
  delta bh at hi;let(h1,h2):=iz.mp hi;exact(À h1,À h2)
 let M:∀i,i<ms.L->ms[i]? =Α ϛ:=λi hi=>by
  rw[ij,cI hi];rfl
 let J:=λi hi=>bj (M i hi);let Z:(bh ms).Pairwise (· < ·):=by
  ext bh;exact List.Pairwise.sublist abE auc
 let hw:((bh ms).M (mr ms)).Pairwise (· < ·):=by
  rw[JS];apply List.Pairwise.imp_of_mem (λ{i j}hi hj Y=>?_) Z;let(q,U):=F i hi;let(W,j2):=F j hj;let hf:=(pw_place.mp f.pw) j _ (M j W) ϛ (by
   apply bj (i:=i) ?_;rw[aa4 Y,M i q])
  let:=(xH (f.kv _ (J i q)) (f.kv _ (J j W)) j2).mp hf;ext mr;rcases this with h|h
  .lia
  .exact h.2
 let:=Zw (lo:=1) (hi:=4) hw (λz hz=>by
  let(i,hi,rfl):=bG.mp hz;let(q,U):=F i hi;exact(f.kv _ (J i q)).DU U) (À O)
 rw[ak] at this;lia
def EG(f:sV ms):uO ms:=by
 apply(⟨by let:=aok f;lia,λs hs=>?_⟩,λm j=>by let:=(f.kv m j).cp;lia);delta bh at hs;let(q,h2):=iz.mp hs;simp at q;simp at h2;let j:ms.D s eW∈ms:=by
  symm
 exact((f.kv _ j).DU h2).1
def aol(j:bq t)(h:gM t=Α x):IA x.2:=by
 let f:=IQ j h;let g:=EG f;apply(λk hk=>(f.kv k hk).lk,g.mo,λrows sg=>?_);rw[P8 (L:=⟨[],x.2.M bJ⟩) rfl g sg];simp
def Zx(x:Str)(s:String)(F:bq ũ)(hs:(codes x).M B=Flags.ascii s)(h:bq l):Flags.wordName (Flags.ascii s) Ľ=(fJ ũ l).M λn=>n.M B:=by
 ext Flags.wordName fJ;rw[show Flags.cutAt 32 Ľ=(aN 32 l).M ë from yR 32 Ñ l h];let j:=qS 32 (l:=l) h;generalize aN 32 l=W at j
 match W,j with
 |[],_=>rfl
 |[a],_=>rfl
 |[a,b],j=>
  let q:a.M B=Flags.ascii s↔a=codes x:=by
   rw[<-hs];exact(λe=>xt (j a Ä) F e,λe=>by rw[e])
  show(if a.M B=Flags.ascii s/\Flags.isName Ϟ=true then some Ϟ else none)=Option.map _ (if a=codes x/\iW b=true then some b else none);rw[Hq (j b Ä)];by_cases c:a=codes x/\iW b=true
  .rw[ah c,ah ⟨q.mpr c.1,c.2⟩];rfl
  .rw[ag c,ag (λz:_/\_=>c ⟨q.mp z.1,z.2⟩)];rfl
 |a::b::c::r,_=>rfl
def wF(l:LI):Bool:=!(aN 32 l).Y []
def wG(l:LI):Bool:=!((aN 32 l).drop 1).Y []
def Zy(x:Int)(r:LI):wF (x::r)=(decide (x≠32)&&wG r):=by
 ext wF wG;show(!(if x=32 then []::aN 32 r else match aN 32 r with|[]=>[[x]]|w::l=>(x::w)::l).Y [])=_;by_cases h:x=32
 .rw[ah h,gC (λz=>z h),mG];simp
 .rw[ag h,eP h,nt];cases e:aN 32 r with
  |nil=>exact absurd e (m5 32 r)
  |cons w l=>
   simp
def aom(y:Int)(r:LI):wG (y::r)=if y=32 then wF r else wG r:=by
 ext wF wG;show(!((if y=32 then []::aN 32 r else match aN 32 r with|[]=>[[y]]|w::l=>(y::w)::l).drop 1).Y [])=_;by_cases h:y=32
 .rw[ah h,ah h];rfl
 .rw[ag h,ag h];cases e:aN 32 r with
  |nil=>exact absurd e (m5 32 r)
  |cons w l=>rfl
def kB(l:List UInt8):Bool:=l.getLast? !=Α 32&&Flags.noTwoBlanks l
def EH(h:0<=x/\x<=255):(B x==32)=decide (x=32):=by
 let:=DR (p:=λx=>decide ((B x==32)=decide (x=32))) É h;symm
def Zz(x y:Int)(j:0<=x/\x<=255)(q:0<=y/\y<=255)(r:List UInt8):kB (B x::B y::r)=(!(decide (x=32)&&decide (y=32))&&kB (B y::r)):=by
 ext kB;rw[show Flags.noTwoBlanks (B x::B y::r)=(!(B x==32&&B y==32)&&Flags.noTwoBlanks (B y::r)) from rfl,EH j,EH q,List.getLast?_cons_cons];cases (decide (x=32)&&decide (y=32)) <;> cases ((B y::r).getLast? !=Α 32) <;> simp
def ZA(x:Int)(j:0<=x/\x<=255):kB [B x]=decide (x≠32):=by
 ext kB;rw[show Flags.noTwoBlanks [B x]=true from rfl,RX];let:=EH j;show(some (B x)!=Α 32)=_;by_cases h:x=32
 .rw[h];decide
 .rw[eP h];rw[gC h] at this;let h2:B x≠32:=by simpa using this
  simpa using h2
theorem Qa:∀(n:Nat)(r:LI)(x:Int),r.L<=n->bq (x::r)->x≠32->kB ((x::r).M B)=wG r
 |_,[],x,_,h,hx=>by
  rw[a7,mJ,ZA x (h x Ä),eP hx];rfl
 |0,y::r,x,hl,_,_=>absurd hl Ä
 |n+1,y::r,x,hl,h,hx=>by
  let F:=h x Ä;let q:=h y Ä;simp at hl;rw[a7,a7,Zz x y F q,gC hx,mG,aom];by_cases j:y=32
  .rw[ah j];cases r with
   |nil=>
    rw[mJ,ZA y q,gC (λz=>z j)];rfl
   |cons z r=>
    let J:=h z Ä;rw[a7,Zz y z q J,eP j,nt,Zy];by_cases hz:z=32
    .rw[eP hz,gC (λw=>w hz)];rfl
    .rw[gC hz,eP hz,nt];exact Qa n r z (by simp only[dg] at hl;lia) (λw M=>h w (aK _ (aK _ M))) hz
  .rw[ag j];exact Qa n r y hl (λw M=>h w (aK _ M)) j
def aop{l:LI}(h:bq l):Flags.isMeaning Ľ=uF l:=by
 let Y:uF l=(!(decide (l.L>64)||(aN 32 l).Y [])&&l.all λb=>decide (32<=b)&&decide (b<=126)):=rfl;let Z:(aN 32 l).Y []=!wF l:=by ext wF;rw[R8]
 rw[Y,Z];ext Flags.isMeaning;rw[ak,rH];let W:l.all ((λ(c:UInt8)=>decide (32<=c.toNat)&&decide (c.toNat<=126))∘B)=l.all λb=>decide (32<=b)&&decide (b<=126):=LM h λx q=>by
  let:=DR (p:=λx=>decide ((decide (32<=(B x).toNat)&&decide ((B x).toNat<=126))=(decide (32<=x)&&decide (x<=126)))) É q;simpa using this
 rw[W];cases l with
 |nil=>rfl
 |cons x r=>
  rw[Zy];let hk:(((x::r).M B).head? !=Α 32)=decide (x≠32):=by
   let:=EH (h x Ä);show(some (B x)!=Α 32)=_;by_cases q:x=32
   .rw[q];decide
   .rw[eP q];rw[gC q] at this;let h2:B x≠32:=by simpa using this
    simpa using h2
  let O:decide (1<=(x::r).L)=true:=eP Ä;let U:decide ((x::r).L>64)=!decide ((x::r).L<=64):=by
   generalize (x::r).L=n;by_cases z:n<=64
   .rw[eP z,gC Å];rfl
   .rw[gC z,eP Å];rfl
  rw[hk,O,U,nt];let j:decide (x≠32)=true->kB ((x::r).M B)=wG r:=λq=>Qa r.L r x (bA _) h (mO q);delta kB at j;generalize (((x::r).M B).getLast? !=Α 32)=F at j⊢;generalize Flags.noTwoBlanks ((x::r).M B)=p2 at j⊢;generalize (x::r).all (λb=>decide (32<=b)&&decide (b<=126))=J;generalize decide ((x::r).L<=64)=M;generalize wG r=p5 at j⊢;generalize decide (x≠32)=p6 at j⊢;cases p6
  .cases F <;> cases p2 <;> cases J <;> cases M <;> cases p5 <;> rfl
  .let j:=j rfl;subst j;cases F <;> cases p2 <;> cases J <;> cases M <;> rfl
def aoq(h:iX line=Α m)(j:m.role=0):iW m.name=true:=by
 delta iX pW at h;generalize aN 32 line=ws at h;split at h
 .cases h
 .rename_i r z;by_cases q:ws.L=(if r=2 then 4 else 5)
  .rw[ah q] at h;cases e1:m9 r Ŗ with
   |none=>rw[e1,He] at h;cases h
   |some n=>
    cases e2:sA r Ŗ with
    |none=>rw[e2,Hf] at h;cases h
    |some W=>
     cases e3:iL (ws.D (ws.L-3) []) 8 with
     |none=>rw[e3,Oa] at h;cases h
     |some c=>
      cases e4:bV Ć (ws.D (ws.L-2) []) with
      |none=>rw[e4,Hg] at h;cases h
      |some sh=>
       cases e5:iF (ws.D (ws.L-1) []) with
       |none=>rw[e5,Hh] at h;cases h
       |some lk=>
        rw[e1,e2,e3,e4,e5] at h;let:=aQ h;subst this;let j:=j;delta m9 at e1;grind
  .symm
theorem aor{r:dJ}:∀{ms:aI},hJ r=Α ms->∀m∈ms,m.role=0->iW m.name=true:=by
 induction r with
 |nil=>
  intro ms h m j;let:=aQ h;subst this;exact absurd j Ä
 |cons l r q=>
  intro ms h m j;delta hJ at h;cases e1:iX l with
  |none=>rw[e1] at h;cases hJ r <;> cases h
  |some k=>
   rw[e1] at h;cases e2:hJ r with
   |none=>rw[e2] at h;cases h
   |some ks=>
    rw[e2] at h;let:=aQ h;subst this;rcases a8.mp j with rfl|j
    .exact aoq e1
    .exact q e2 m j
def aos{t:LI}{x:LI×aI}(h:gM t=Α x):∀m∈x.2,m.role=0->iW m.name=true:=by
 delta gM at h;split at h
 .rename_i l r e;cases e1:fJ (codes "locker") l with
  |none=>rw[e1,DP] at h;cases h
  |some n=>
   cases e2:hJ r with
   |none=>rw[e2,DO] at h;cases h
   |some ms=>
    rw[e1,e2] at h;let h:(if (oN ms&&pY ms)=true then some (n,ms) else none)=Α x:=h;split at h
    .let:=aQ h;subst this;exact aor e2
    .symm
 .cases h
def qu(name:LI)(m:iq):Bool:=decide (m.role=0)&&decide (m.name=name)
def aot{L:Flags.Locker}{ms:aI}(hk:L.kinds=ms.M bJ)(f:sV ms){name:LI}(J:bq name):L.find Äd=ms.findIdx? (qu name):=by
 ext Flags.Locker.find;rw[hk,List.findIdx?_map];let:∀l:aI,(∀m∈l,Kv m)->l.findIdx? ((λ(k:Flags.Kind)=>k.role== .sign Äd)∘bJ)=l.findIdx? (qu name):=by
  intro l;induction l with
  |nil=>intro _;rfl
  |cons m l O=>
   intro kv;let km:=kv m Ä;let e:((λ(k:Flags.Kind)=>k.role== .sign Äd)∘bJ) m=qu name m:=by
    show((bJ m).role== .sign Äd)=_;ext qu;by_cases j:m.role=0
    .rw[za j,eP j,nt];by_cases q:m.name=name
     .rw[q,eP rfl];simp
     .rw[gC q];let:m.name.M B≠name.M B:=λz=>q (xt km.nm J z);simpa using this
    .rw[gC j,mG];by_cases F:m.role=1
     .rw[A5 F];rfl
     .let:=km.role;rw[Ht km Î];rfl
   rw[abm,abm,e,O λx M=>kv x (aK _ M)]
 exact this ms f.kv
theorem aou(name:LI)(l:List (LI×Nat)):∀(acc:Option Nat),(∀p∈l,p.1≠name)->l.foldl (λacc p=>if p.1=name then some p.2 else acc) acc=acc:=by
 induction l with
 |nil=>exact @λacc _=>Á
 |cons p l z=>
  intro acc h;rw[Fu,ag (h p Ä)];exact z acc λq j=>h q (aK _ j)
theorem aov(name:LI)(k:Nat)(l:List (LI×Nat)):∀(acc:Option Nat),(∀p∈l,p.1=name->p.2=k)->((∃p∈l,p.1=name)\/acc=Α k)->l.foldl (λacc p=>if p.1=name then some p.2 else acc) acc=Α k:=by
 induction l with
 |nil=>exact @λacc _ h=>h.elim (λ⟨p,j,_⟩=>absurd j Ä) id
 |cons p l J=>
  intro acc F h2;rw[Fu];apply J _ (λq z=>F q (aK _ z)) ?_;by_cases j:p.1=name
  .rw[ah j,F p Ä j];exact Or.inr Á
  .rw[ag j];rcases h2 with ⟨q,z,e⟩|h2
   .rcases a8.mp z with rfl|z
    .exact absurd e j
    .exact Or.inl ⟨q,z,e⟩
   .exact Or.inr h2
def ZC(f:sV ms)(name:LI):kO ms name=ms.findIdx? (qu name):=by
 let U:∀i,i<ms.L->ms[i]? =Α ϛ:=λi hi=>by
  rw[ij,cI hi];rfl
 let O:∀p,p∈uG ms ms.L↔ ∃j,j<ms.L/\(ms.D j eW).role=0/\p=((ms.D j eW).name,j):=λp=>by
  ext uG kJ;simp only[bG,iz,u7,lY];exact(λ⟨j,⟨q,h2⟩,e⟩=>⟨j,q,h2,e.symm⟩,λ⟨j,q,h2,e⟩=>⟨j,⟨q,h2⟩,e.symm⟩)
 let Z:∀i j,i<j->j<ms.L->qu name ϛ=true->qu name (ms.D j eW)=true->False:=λi j Bh F q h2=>by
  let J:=at0.mp f.nm;let:=(pw_place.mp J) j _ (U j F) ϛ (by
   apply bj (i:=i) ?_;rw[aa4 Bh,U i Î])
  delta qu at q h2;let(a1,a2):=tw.mp q;let(b1,b2):=tw.mp h2;exact this a1 b1 ((mO a2).R (mO b2).symm)
 ext kO;cases e:ms.findIdx? (qu name) with
 |none=>
  rw[List.findIdx?_eq_none_iff] at e;apply aou name _ none λp J z=>?_;let(j,F,M,rfl):=(O p).mp J;let:=e _ (bj (U j F));delta qu at this;rw[eP M,eP z] at this;cases this
 |some k=>
  let(hk,q,_):=RU.mp e;let W:qu name (ms.D k eW)=true:=by
   rw[ij,cI hk];exact q
  let uh:=tw.mp W;apply aov name k _ none (λp J z=>?_) (Or.inl ⟨((ms.D k eW).name,k),(O _).mpr ⟨k,hk,mO uh.1,Á⟩,mO uh.2⟩);let(j,F,M,rfl):=(O p).mp J;let Y:qu name (ms.D j eW)=true:=by
   ext qu;rw[eP M,eP z];rfl
  rcases abG j k with h|h|h
  .exact(Z j k h hk Y W).elim
  .exact h
  .exact(Z k j h F W Y).elim
def aow{L:Flags.Locker}{ms:aI}(hk:L.kinds=ms.M bJ)(f:sV ms){name:LI}(j:bq name):L.find Äd=kO ms name:=(aot hk f j).R (ZC f name).symm
def aox{ms:aI}(f:sV ms)(q:∀m∈ms,m.role=0->iW m.name=true){name:LI}{k:Nat}(h:kO ms name=Α k):iW name=true:=by
 rw[ZC f] at h;let(hk,j,_):=RU.mp h;let j:=tw.mp j;let:=q _ (List.getElem_mem hk) (mO j.1);rw[mO j.2] at this;exact this
theorem aoy{l:LI}:bq l->Flags.partAt 32 Ľ=if l.Y 32=true then some ((l.take (l.idxOf 32)).M B,(l.drop (l.idxOf 32+1)).M B) else none:=by
 induction l with
 |nil=>exact @λ_=>Á
 |cons x r q=>
  intro h;let q:=q λw M=>h w (aK _ M);let j:=EH (h x Ä);rw[a7];ext Flags.partAt;rw[List.idxOf_cons,BQ];by_cases e:x=32
  .rw[ah (by rw[eP e] at j;simpa using j),ah (by rw[e];rfl)];subst e;rfl
  .let J:¬B x=32:=by rw[gC e] at j;simpa using j
   let z:(x==32)=false:=À e
   let F:((32:Int)==x)=false:=by simpa using eE e
   rw[ag J,q,z,F,RK];by_cases hc:r.Y 32=true
   .rw[ah hc,ah hc];rfl
   .rw[ag hc,ag hc];rfl
theorem aoz{L:Flags.Locker}{ms:aI}(hk:L.kinds=ms.M bJ)(f:sV ms){ps:dJ}:(∀p∈ps,bq p)->L.rowIn (ps.M ë)=if (ps.M (kO ms)).Y none=true then none else some ((ps.M (kO ms)).M λo=>o.D 0):=by
 induction ps with
 |nil=>exact @λ_=>Á
 |cons p ps j=>
  intro h;let j:=j λq F=>h q (aK _ F);delta Flags.Locker.rowIn at j⊢;rw[a7,JN,aow hk f (h p Ä),j,a7,BQ];cases e:kO ms p with
  |none=>rfl
  |some k=>
   let z:((none:Option Nat)==Α k)=false:=rfl;rw[z,RK];by_cases hc:(ps.M (kO ms)).Y none=true
   .rw[ah hc,ah hc];rfl
   .rw[ag hc,ag hc];rfl
def entry_eq{L:Flags.Locker}{ms:aI}(hk:L.kinds=ms.M bJ)(f:sV ms)(hn:∀m∈ms,m.role=0->iW m.name=true){w:LI}(O:bq w):
  ((Flags.entryIn Ĳ).bind λx=>(L.rowIn x.1).M λr=>(r,x.2))=(iP ms w).M λe=>(e.1,e.2.M B):=by
 ext Flags.entryIn iP;rw[aoy O];by_cases hc:w.Y 32=true
 .rw[ah hc,ah hc];let M:bq (w.take (w.idxOf 32)):=λx U=>O x (zX U);let Z:bq (w.drop (w.idxOf 32+1)):=λx U=>O x (abi U);generalize w.take (w.idxOf 32)=F at M;generalize w.drop (w.idxOf 32+1)=p2 at Z;rw[Fw];dsimp only;ext Flags.namesIn;rw[show Flags.cutAt 46 (F.M B)=(aN 46 F).M ë from yR 46 Ñ F M,aop Z];let W:=qS 46 (l:=F) M;let q:=aoz hk f W;ext xQ qk;rw[ak];generalize aN 46 F=ps at W q;dsimp only;rw[ak];by_cases Y:ps.L<=8
  .by_cases j:(ps.M (kO ms)).Y none=true
   .rw[ah (Or.inr j)];rw[ah j] at q;dsimp only;split
    .rw[Fw];split
     .rw[Fw,q];rfl
     .rfl
    .rfl
   .let jP:(ps.M ë).all Flags.isName=true:=by
     rw[rH,jH];intro p hp;show Flags.isName Áq=true;rw[Hq (W p hp)];cases e:kO ms p with
     |none=>exact absurd (by rw[B4];exact bG.mpr ⟨p,hp,e⟩) j
     |some k=>exact aox f hn e
    rw[ah (show ps.L<=Flags.LONG/\(ps.M ë).all Flags.isName=true from⟨Y,jP⟩),ag (λz:ps.L>8\/(ps.M (kO ms)).Y none=true=>z.elim (λy=>by lia) j),Fw];rw[ag j] at q;dsimp only;by_cases J:uF p2=true
    .rw[ah J,ah J,Fw,q];rfl
    .rw[ag J,ag J];rfl
  .rw[ag (λz:ps.L<=Flags.LONG/\(ps.M ë).all Flags.isName=true=>Y z.1),ah (show ps.L>8\/(ps.M (kO ms)).Y none=true from Or.inl Å)];rfl
 .rw[ag hc,ag hc];rfl
theorem ZE:∀r s:LN,r.L=s.L->HT.lexLt (nv r) (nv s)=Flags.before r s
 |[],[],_=>rfl
 |[],_::_,h=>by simp at h
 |_::_,[],h=>by simp at h
 |x::r,y::s,h=>by
  let j:=ZE r s (À h);show HT.lexLt (((x:Nat):Int)::nv r) (((y:Nat):Int)::nv s)=(decide (x<y)||(x==y&&Flags.before r s));rw[HT.vy,j];by_cases e:x=y
  .subst e;rw[ah rfl,gC Å];simp
  .rw[ag Î,show(x==y)=false by simpa using e,mG,abf,JU];symm
def aoA(r s:LN):we r s=Flags.rowBefore r s:=by
 ext we Flags.rowBefore;by_cases e:r.L=s.L
 .rw[ah Å,ZE r s e,gC Å,show(r.L==s.L)=true by simp_all];simp
 .grind
def aoB{L:Flags.Locker}{ms:aI}(hk:L.kinds=ms.M bJ)(g:uO ms){row:LN}(sg:∀s∈row,kJ ms s=true):lO ms row=L.canShow row:=by
 ext lO;rw[P8 hk g (rows:=[row]) (λr hr=>by
  obtain rfl:r=row:=À hr
  exact sg),show L.canShowAll [row]=L.canShow row from rfl]
 cases L.canShow row <;> rfl
abbrev om:=LN×LI
def o9(e:om):Flags.Entry:=⟨e.1,e.2.M B⟩
def rD(j:List om)(e:om):Bool:=!(j.getLast?.any λp=>!we p.1 e.1)
def uP(ms:aI):List om->dJ->Option (List om)
 |past,[]=>some past
 |past,w::r=>match iP ms w with
  |none=>none
  |some e=>if (lO ms e.1&&(rD past e&&decide (past.L<2048)))=true then uP ms (past++[e]) r else none
def aoC{L:Flags.Locker}{ms:aI}(hk:L.kinds=ms.M bJ)(f:sV ms)(hn:∀m∈ms,m.role=0->iW m.name=true)(z:LI)(r:dJ):∀(i:Nat)(past:List om),(∀w∈r,bq w)->
  (∀es,(z=[]/\uP ms past r=Α es)->L.judgeEntries i Áp ((r++[z]).M ë)=.ok (es.M o9))/\((¬z=[]\/uP ms past r=Β)->∃e,L.judgeEntries i Áp ((r++[z]).M ë)=.error e):=by
 induction r with
 |nil=>
  intro i past _;let J:L.judgeEntries i Áp ((([]:dJ)++[z]).M ë)=if z.M B=[] then .ok Áp else .error (1,i):=rfl;rw[J];apply(λes h=>?_,λh=>?_)
  .rw[ah (by rw[h.1];rfl),show past=es from aQ h.2]
  .rcases h with h|h
   .exact(_,ag (λq=>h (À q)))
   .cases h
 |cons w r ih=>
  intro i past W;let M:=W w Ä;let g:=EG f;obtain⟨y,O,U⟩:∃y O,(r++[z]).M ë=y::O:=by
   cases r with
   |nil=>exact(_,_,Á)
   |cons a b=>exact(_,_,Á)
  let J:L.judgeEntries i Áp (((w::r)++[z]).M ë)=match Flags.entryIn Ĳ with
    |none=>.error (1,i)
    |some (n,m)=>match L.entryRow Áp n with
     |.error k=>.error (k,i)
     |.ok row=>L.judgeEntries (i+1) (past.M o9++[⟨row,m⟩]) ((r++[z]).M ë):=by
   rw[show((w::r)++[z]).M ë=w.M B::y::O from b9 (w.M B:: ·) U,U];rfl
  let j:=entry_eq hk f hn M;let eg:uP ms past (w::r)=match iP ms w with
   |none=>none
   |some e=>if (lO ms e.1&&(rD past e&&decide (past.L<2048)))=true then uP ms (past++[e]) r else none:=rfl
  rw[J,eg];cases e1:Flags.entryIn Ĳ with
  |none=>
   rw[e1] at j;let F:iP ms w=Β:=by
    cases e:iP ms w with
    |none=>rfl
    |some x=>rw[e] at j;cases j
   rw[F];exact(λes h=>(by cases h.2),λ_=>⟨_,Á⟩)
  |some x=>
   let(n,m):=x;rw[e1,Fw] at j;dsimp only at j⊢;ext Flags.Locker.entryRow;cases e3:L.rowIn n with
   |none=>
    rw[e3] at j;let F:iP ms w=Β:=by
     cases e:iP ms w with
     |none=>rfl
     |some x=>rw[e] at j;cases j
    rw[F];exact(λes h=>(by cases h.2),λ_=>⟨_,Á⟩)
   |some row=>
    rw[e3] at j;cases F:iP ms w with
    |none=>rw[F] at j;cases j
    |some e=>
     rw[F] at j;let j:=aQ j;let xO:=b9 Prod.fst j;let HZ:=b9 Prod.snd j;subst xO HZ;let lJ:=(Pt F).2;let ec:=aoB hk g (row:=e.1) λs hs=>(lJ s hs).2;let el:((past.M o9).getLast?.any λ(p:Flags.Entry)=>!Flags.rowBefore p.row e.1)=!rD past e:=by
      ext rD;rw[R8,List.getLast?_map];cases past.getLast? with
      |none=>rfl
      |some p=>
       show(!Flags.rowBefore p.1 e.1)=!we p.1 e.1;rw[aoA]
     let em:(past.M o9).L=past.L:=ak ..;dsimp only;rw[<-ec,el,em];let(Z,j2):=ih (i+1) (past++[e]) λv hv=>W v (aK _ hv);rw[bH,show[e].M o9=[⟨e.1,e.2.M B⟩] from rfl] at Z j2;cases hcan:lO ms e.1 with
     |false=>
      rw[ah (rfl:false=false),mG,ag eN];exact(λes h=>(by cases h.2),λ_=>⟨_,Á⟩)
     |true=>
      rw[ag (by decide:¬(true=false)),nt];cases hnx:rD past e with
      |false=>
       rw[ah (by decide:(!false)=true),mG,ag eN];exact(λes h=>(by cases h.2),λ_=>⟨_,Á⟩)
      |true=>
       rw[ag (by decide:¬(!true)=true),nt];by_cases Y:past.L<2048
       .rw[ag (show ¬Flags.ENTRIES<=past.L from λq=>by let:(2048:Nat)<=past.L:=q;lia),eP Y,ah rfl];exact(Z,j2)
       .rw[ah (show Flags.ENTRIES<=past.L from by show(2048:Nat)<=past.L;lia),gC Y,ag eN];exact(λes h=>(by cases h.2),λ_=>⟨_,Á⟩)
def uQ:List om->List om->Bool
 |_,[]=>true
 |past,e::es=>rD past e&&uQ (past++[e]) es
def aoE(ms:aI)(r:dJ):∀(j:List om),uP ms j r=match jv ms r with
  |none=>none
  |some es=>if (es.all (λe=>lO ms e.1)&&(uQ j es&&decide (j.L+es.L<=2048\/es=[])))=true then some (j++es) else none:=by
 induction r with
 |nil=>
  intro j;show some j=if _ then some (j++[]) else none;rw[jF,ah];simp[uQ]
 |cons w r U=>
  intro j;ext uP jv;cases e1:iP ms w with
  |none=>
   cases jv ms r <;> rfl
  |some e=>
   dsimp only;rw[U (j++[e])];cases e2:jv ms r with
   |none=>
    split <;> rfl
   |some es=>
    dsimp only;rw[tq,show uQ j (e::es)=(rD j e&&uQ (j++[e]) es) from rfl,rJ,show[e]++es=e::es from rfl,j4,show[e].L=1 from rfl,dg (a:=e) (as:=es)];let hd:(decide (j.L+(es.L+1)<=2048\/e::es=[]))=(decide (j.L<2048)&&decide (j.L+1+es.L<=2048\/es=[])):=by
     rw[qx,jG,lY,lY,lY];constructor
     .rintro (h|h)
      .exact(by lia,Or.inl Î)
      .cases h
     .rintro⟨W,h2⟩;rcases h2 with h2|h2
      .exact Or.inl Î
      .subst h2;exact Or.inl (by simp only[tj];assumption)
    rw[hd];generalize lO ms e.1=q;generalize es.all (λe=>lO ms e.1)=z;generalize rD j e=F;generalize uQ (j++[e]) es=J;generalize decide (j.L<2048)=M;generalize decide (j.L+1+es.L<=2048\/es=[])=O;cases q <;> cases z <;> cases F <;> cases J <;> cases M <;> cases O <;> rfl
theorem aoF(es:List om):∀(j:List om)(p:om),uQ (j++[p]) es=((p::es).zip es).all λq=>we q.1.1 q.2.1:=by
 induction es with
 |nil=>exact @λj p=>Á
 |cons e es z=>
  intro j p;let z:=z (j++[p]) e;show(rD (j++[p]) e&&uQ (j++[p]++[e]) es)=_;rw[z,zU,tq];congr 1;ext rD;rw[List.getLast?_concat];show(!(!we p.1 e.1))=_;rw[R8]
theorem aoG(es:List om):uQ [] es=Bu (es.M (·.1)):=by
 cases es with
 |nil=>rfl
 |cons e es=>
  show(rD [] e&&uQ ([]++[e]) es)=_;rw[aoF];ext Bu;rw[show rD [] e=true from rfl,nt,a7,List.drop_succ_cons,abn,<-a7,List.zip_map,rH];rfl
theorem aoH{ms:aI}{r:dJ}:∀{es:List om},jv ms r=Α es->es.L=r.L:=by
 induction r with
 |nil=>
  intro es h;rw[<-aQ h];rfl
 |cons w r j=>
  intro es h;delta jv at h;cases e1:iP ms w with
  |none=>rw[e1] at h;cases jv ms r <;> cases h
  |some e=>
   cases e2:jv ms r with
   |none=>rw[e1,e2] at h;cases h
   |some q=>
    rw[e1,e2] at h;rw[<-aQ h,dg,dg,j e2]
theorem aoI{ms:aI}(nm:LI)(r:dJ):(if r.L<=2048 then Il ms nm (jv ms r) else none)=(uP ms [] r).M λes=>(nm,es):=by
 rw[aoE];cases e:jv ms r with
 |none=>
  show(if r.L<=2048 then none else none)=Β;simp
 |some es=>
  let j:=aoH e;dsimp only;rw[aoG,show([]:List om).L+es.L=es.L by simp,j];show(if r.L<=2048 then (if (Bu (es.M (·.1))&&(es.M (·.1)).all (lO ms))=true then some (nm,es) else none) else none)=Option.map _ (if _ then some ([]++es) else none);grind
def aoJ{L:Flags.Locker}{nm:LI}{ms:aI}(hk:L.kinds=ms.M bJ)(Im:L.name=nm.M B)(W:bq nm)(f:sV ms)(hn:∀m∈ms,m.role=0->iW m.name=true){b:LI}(h:bq b):
  (∀y,lQ nm ms b=Α y->L.judgeBook Ϟ=.ok ⟨y.1.M B,y.2.M o9⟩)/\(lQ nm ms b=Β->∃e,L.judgeBook Ϟ=.error e):=by
 let J:Flags.cutAt 10 Ϟ=(aN 10 b).M ë:=yR 10 Ñ b h;let F:=qS 10 (l:=b) h;obtain⟨ls,z,ew⟩:∃ls z,aN 10 b=ls++[z]:=by
  rcases qU (aN 10 b) with e|⟨r,x,e⟩
  .exact absurd e (m5 10 b)
  .exact(r,x,e)
 let hw:kH b=if z=[] then some ls else none:=by
  ext kH;rw[ew,show(ls++[z]).getLastD []=z by simp,aud]
 rw[ew] at J F;ext lQ;rw[hw]
 match ls,J,F with
 |[],J,F=>
  let hb:book1 nm ms (if z=[] then some [] else none)=Β:=by split <;> rfl
  rw[hb];apply(λy j=>(by cases j),λ_=>⟨(1,0),?_⟩);ext Flags.Locker.judgeBook;rw[J];rfl
 |[l],J,F=>
  let hb:book1 nm ms (if z=[] then some [l] else none)=Β:=by split <;> rfl
  rw[hb];apply(λy j=>(by cases j),λ_=>?_);ext Flags.Locker.judgeBook;rw[J];show ∃e,(match Flags.wordName (Flags.ascii "book") Ľ with
   |none=>(Except.error (1,0):Except Flags.Fault Flags.Book)
   |some n=>Except.error (1,1))=Except.error e
  cases Flags.wordName (Flags.ascii "book") Ľ with
  |none=>exact(_,Á)
  |some n=>exact(_,Á)
 |l::fo::r,J,F=>
  let U:=F l Ä;let ZF:=F fo Ä;let Z:∀w∈r,bq w:=λw hw=>F w (by simp[hw]);let ej:L.judgeBook Ϟ=match (fJ (codes "book") l).M (λn=>n.M B) with
    |none=>.error (1,0)
    |some n=>match (fJ (codes "for") fo).M (λn=>n.M B) with
     |none=>.error (1,1)
     |some o=>if o≠L.name then .error (2,1) else (L.judgeEntries 2 [] ((r++[z]).M ë)).M λ(l:List Flags.Entry)=>(⟨n,l⟩:Flags.Book):=by
   rw[<-Zx "book" "book" Æy É U,<-Zx "for" "for" Æy É ZF];ext Flags.Locker.judgeBook;rw[J];let O:((r++[z]).M ë).isEmpty=false:=by
    cases r <;> rfl
   show(match Flags.wordName (Flags.ascii "book") Ľ with
    |none=>(Except.error (1,0):Except Flags.Fault Flags.Book)
    |some n=>if ((r++[z]).M (λ(w:LI)=>w.M B)).isEmpty=true then Except.error (1,1) else match Flags.wordName (Flags.ascii "for") (fo.M B) with
     |none=>Except.error (1,1)
     |some o=>if o≠L.name then Except.error (2,1) else (L.judgeEntries 2 [] ((r++[z]).M (λ(w:LI)=>w.M B))).M λ(l:List Flags.Entry)=>(⟨n,l⟩:Flags.Book))=_
   rw[O];cases Flags.wordName (Flags.ascii "book") Ľ with
   |none=>rfl
   |some n=>
    dsimp only;rw[ag eN]
  let eb:book1 nm ms (if z=[] then some (l::fo::r) else none)=if z=[] then (match fJ (codes "book") l with
    |none=>none
    |some n=>if fJ (codes "for") fo=Α nm then (uP ms [] r).M λes=>(n,es) else none) else none:=by
   by_cases hz:z=[]
   .rw[ah hz,ah hz];show(if r.L<=2048 then Pq nm ms (fJ (codes "book") l) (fJ (codes "for") fo) r else none)=_;cases fJ (codes "book") l with
    |none=>
     show(if r.L<=2048 then none else none)=Β;split <;> rfl
    |some n=>
     dsimp only;rw[<-aoI];show(if r.L<=2048 then (if fJ (codes "for") fo=Α nm then Il ms n (jv ms r) else none) else none)=_;split <;> split <;> rfl
   .rw[ag hz,ag hz];rfl
  rw[ej,eb];let(j1,j2):=aoC hk f hn z r 2 [] Z;rw[mJ] at j1 j2;cases e1:fJ (codes "book") l with
  |none=>
   apply(λy j=>?_,λ_=>⟨_,Á⟩);split at j <;> cases j
  |some n=>
   cases e2:fJ (codes "for") fo with
   |none=>
    apply(λy j=>?_,λ_=>⟨_,Á⟩);split at j
    .dsimp only at j;rw[ag (by intro q;cases q)] at j;cases j
    .cases j
   |some o=>
    let Y:bq o:=by
     delta fJ at e2;split at e2
     .rename_i a c ec;split at e2
      .rw[<-aQ e2];exact qS 32 ZF c (by rw[ec];simp)
      .cases e2
     .cases e2
    dsimp only[Option.map_some];by_cases ho:o=nm
    .subst ho;rw[ag (λq:o.M B≠L.name=>q Im.symm),ah rfl];by_cases hz:z=[]
     .rw[ah hz];cases eg:uP ms [] r with
      |none=>
       let(e,M):=j2 (Or.inr eg);exact(λy j=>(by cases j),λ_=>⟨e,by rw[M];rfl⟩)
      |some es=>
       let M:=j1 es ⟨hz,eg⟩;apply(λy j=>?_,λj=>(by cases j));let j:(n,es)=y:=aQ j;rw[<-j,M];rfl
     .rw[ag hz];let(e,M):=j2 (Or.inl hz);exact(λy j=>(by cases j),λ_=>⟨e,by rw[M];rfl⟩)
    .let O:o.M B≠L.name:=λq=>ho (xt Y W (q.R Im));rw[ah O,ag (λq:some o=Α nm=>ho (aQ q))];apply(λy j=>?_,λ_=>⟨_,Á⟩);split at j <;> cases j
def uR(l:LI):Prop:=∀x∈l,0<=x/\x<=16
def Qe:Told->Prop
 |.side s l=>s<3/\gf l
 |.hoist k=>k<4
 |.shape k=>k<4
 |.row l=>l.L=4/\uR l
structure zD(m:eV):Prop where
 cl:m.classes=[]\/gf m.classes
 sd:m.side<3
 c6:m.ao.L<=4
 fl:∀g∈m.ao,g.flags.L<=8
 ce:∀g∈m.ao,∀f∈g.flags,f.1<4/\uR f.2
def ZG(h:kC signs part=Α l):l.L=part.L/\∀x∈l,0<=x/\x<signs.L:=by
 delta kC at h;grind
theorem aoO(h:lD w=Α t):Qe t:=by
 delta lD at h;cases j:eI w with
 |some x=>
  rw[j] at h;let h:=(aQ h).symm;subst h;delta HD.eI at j;split at j
  .rename_i a b c J;split at j
   .cases e2:bV vK b with
    |none=>symm
    |some s=>
     cases e3:iF c with
     |none=>symm
     |some l=>
      rw[e2,e3] at j;let j:=(aQ j).symm;subst j;apply(AZ e2,?_);delta iF at e3;split at e3
      .rename_i hc;let(F,p2):=ZG e3;let q:mj.L=16:=by decide+kernel
       rw[q] at p2;exact(F.R hc,p2)
      .symm
   .symm
  .symm
 |none=>
  rw[j] at h;cases e2:bV iI w with
  |some k=>
   rw[e2] at h;let h:=(aQ h).symm;subst h;exact AZ e2
  |none=>
   rw[e2] at h;cases e3:bV iJ w with
   |some k=>
    rw[e3] at h;let h:=(aQ h).symm;subst h;exact AZ e3
   |none=>
    rw[e3] at h;cases e4:ly w with
    |none=>symm
    |some l=>
     rw[e4] at h;let h:=(aQ h).symm;subst h;apply(V0 e4,λx z=>?_);delta ly at e4;split at e4
     .let:=(ZG e4).2 x z;let q:qR.L=17:=by decide+kernel
      lia
     .symm
theorem aoP(h:Qe t):WI t:=by
 cases t with
 |side s l=>exact h.2.1
 |hoist k=>trivial
 |shape k=>trivial
 |row l=>exact h.1
def aoQ{m:eV}(v:zD m){t:Told}(g:Qe t)(h:eC m t.sort=true):zD (sy m t):=by
 let upd:∀(gs:List iV)(F:iV->iV),m.ao=gs->(∀x∈m.ao.getLast?,(F x).flags.length<=8/\∀f∈(F x).flags,f.1<4/\uR f.2)->zD ⟨m.side,m.classes,m.ao.dropLast++(m.ao.getLast?.M F).toList⟩:=λgs F _ U=>by
  let W:∀y∈m.ao.dropLast++(m.ao.getLast?.M F).toList,y∈m.ao\/∃x,m.ao.getLast?=Α x/\y=F x:=λy j=>by
   rcases fu.mp j with j|j
   .exact Or.inl (B1 _ j)
   .cases e:m.ao.getLast? with
    |none=>rw[e] at j;cases j
    |some x=>
     rw[e] at j;exact Or.inr ⟨x,Á,À j⟩
  apply(v.cl,v.sd,?_,λy j=>?_,λy j=>?_)
  .show(m.ao.dropLast++(m.ao.getLast?.M F).toList).L<=4;let:=v.c6;rcases qU m.ao with e|⟨r,x,e⟩
   .rw[e];simp
   .rw[e] at this⊢;simp at this⊢;exact this
  .rcases W y j with h|⟨x,J,rfl⟩
   .exact v.fl y h
   .exact(U x J).1
  .rcases W y j with h|⟨x,J,rfl⟩
   .exact v.ce y h
   .exact(U x J).2
 cases t with
 |side s l=>exact(Or.inr g.2,g.1,v.c6,v.fl,v.ce)
 |hoist k=>
  let Z:=VS h;apply(v.cl,v.sd,?_,λy j=>?_,λy j=>?_)
  .show(m.ao++[_]).L<=4;rw[j4];exact Z
  .rcases fu.mp j with j|j
   .exact v.fl y j
   .obtain rfl:y=_:=by simpa using j
    exact di _
  .rcases fu.mp j with j|j
   .exact v.ce y j
   .obtain rfl:y=_:=by simpa using j
    intro f q;cases q
 |shape k=>
  apply upd _ _ Á λx J=>?_;let J:m.ao.getLast?=Α x:=J;let M:=Fq J;let h8:x.flags.L<8:=by
   let h:eC m 2=true:=h;delta eC at h;split at h
   .simp at h
   .split at h
    .simp at h
    .split at h
     .rename_i hq;exact absurd hq Ñ
     .rw[J] at h;simpa using h
  apply(?_,λf q=>?_)
  .show(x.flags++[(k,[])]).L<=8;rw[j4];exact h8
  .rcases fu.mp q with q|q
   .exact v.ce x M f q
   .obtain rfl:f=_:=by simpa using q
    exact(g,λy j=>absurd j Ä)
 |row l=>
  apply upd _ _ Á λx J=>?_;let J:m.ao.getLast?=Α x:=J;let M:=Fq J;let O:=v.fl x M;let Y:=v.ce x M;apply(?_,λf q=>?_)
  .show(x.flags.dropLast++(x.flags.getLast?.M λs=>(s.1,s.2++l)).toList).L<=8;rcases qU x.flags with e|⟨r,y,e⟩
   .rw[e];simp
   .rw[e] at O⊢;simp at O⊢;exact O
  .rcases fu.mp q with q|q
   .exact Y f (B1 _ q)
   .cases e:x.flags.getLast? with
    |none=>rw[e] at q;cases q
    |some y=>
     rw[e] at q;obtain rfl:f=_:=À q
     let j:=Y y (Fq e);exact(j.1,λz hz=>(fu.mp hz).elim (j.2 z) (g.2 z))
def aoR{m:eV}{s:Flags.PlateState}(r:A8 m s):(qW m=true->s.over=Α ϗ/\m.classes≠[]/\∀g∈m.ao,∀f∈g.flags,f.2.L=16)/\(qW m=false->s.over=Β):=by
 let(W,Y,hd):=r;ext qW Flags.PlateState.over;cases Y with
 |vT q h2 F=>
  rw[Hv F,Bool.not_false,RX,q,h2,Ou];ext ml;cases e:m.ao.getLast? with
  |none=>
   let:m.ao=[]:=by
    rcases qU m.ao with j|⟨r,x,j⟩
    .exact j
    .rw[j,akg] at e;cases e
   rw[this];apply(λz=>(by cases z),λ_=>?_);cases s.head <;> rfl
  |some g=>
   let J:m.ao≠[]:=λz=>by rw[z] at e;cases e
   let hc:m.classes≠[]:=λz=>J (hd z);let M:m.ao.isEmpty=false:=À J
   rw[M,W,ag hc,Bool.not_false,nt];dsimp only[Option.map_some];let O:(iZ g).flags.isEmpty=g.flags.isEmpty:=by
    ext iZ;dsimp only;cases g.flags <;> rfl
   rw[O];apply(λz=>⟨?_,hc,F⟩,λz=>?_)
   .let z:g.flags.isEmpty=false:=by simpa using z
    rw[z,ag eN];rfl
   .let z:g.flags.isEmpty=true:=by simpa using z
    rw[z,ah rfl]
 |opened gs a b fs k cs q h2 F U Z h6 h7=>
  rw[Hw q U,Bool.not_true,zV,zV,h2];apply(λz=>(by cases z),λ_=>?_);cases s.head <;> rfl
def go_eq(z:LI)(ls:dJ):∀(i:Nat)(m:eV)(s:Flags.PlateState),(∀w∈ls,bq w)->A8 m s->zD m->
  (∀M,nW i m ls=.ok M->∃s',A8 M s'/\zD M/\Flags.plateLines i s ((ls++[z]).M ë)=Flags.plateLines (i+ls.L) s' [z.M B])/\(∀e,nW i m ls=.error e->∃J,Flags.plateLines i s ((ls++[z]).M ë)=.error J):=by
 induction ls with
 |nil=>
  intro i m s _ r v;exact⟨λM h=>by
   let h:m=M:=by injection h
   subst h;exact(s,r,v,Á),λe h=>(by cases h)⟩
 |cons w ls Y=>
  intro i m s F r v;obtain⟨y,j,q⟩:∃y j,(ls++[z]).M ë=y::j:=by
   cases ls with
   |nil=>exact(_,_,Á)
   |cons a b=>exact(_,_,Á)
  let U:Flags.plateLines i s (((w::ls)++[z]).M ë)=match Flags.plateLine Ĳ with
    |none=>.error (1,i)
    |some x=>match s.line x with
     |none=>.error (2,i)
     |some t=>Flags.plateLines (i+1) t ((ls++[z]).M ë):=by
   rw[show((w::ls)++[z]).M ë=w.M B::y::j from b9 (w.M B:: ·) q,q];rfl
  rw[U,akf (F w Ä)];ext nW;cases e1:lD w with
  |none=>exact(λM h=>(by cases h),λe _=>⟨_,Á⟩)
  |some t=>
   let g:=aoO e1;let(s1,s2):=akh r (aoP g);dsimp only[Option.map_some];cases hm:eC m t.sort with
   |false=>
    rw[ag eN,s2 hm];exact(λM h=>(by cases h),λe _=>⟨_,Á⟩)
   |true=>
    let(s',O,r2):=s1 hm;rw[ah rfl,O];let(Z,j2):=Y (i+1) (sy m t) s' (λx W=>F x (aK _ W)) r2 (aoQ v g hm);apply(λM h=>?_,j2);let(s3,a,b,c):=Z M h;apply(s3,a,b,?_);rw[dg,show i+(ls.L+1)=i+1+ls.L by lia];exact c
structure xZ(m:eV):Prop where
 inv:zD m
 cl:gf m.classes
 xK:∀g∈m.ao,∀f∈g.flags,f.2.L=16
def ZH{p:LI}(h:bq p):(∀m,ip p=.ok m->Flags.plateIn Áq=.ok ϗ/\xZ m)/\(∀e,ip p=.error e->∃U,Flags.plateIn Áq=.error U):=by
 let Z:Flags.cutAt 10 Áq=(aN 10 p).M ë:=yR 10 Ñ p h;let W:=qS 10 (l:=p) h;obtain⟨ls,z,j⟩:∃ls z,aN 10 p=ls++[z]:=by
  rcases qU (aN 10 p) with e|⟨r,x,e⟩
  .exact absurd e (m5 10 p)
  .exact(r,x,e)
 let l5:p=[]->ls=[]/\z=[]:=λe=>by
  rw[e] at j;let j:[[]]=ls++[z]:=j;cases ls with
  |nil=>
   refine Ţ;simpa using j.symm
  |cons a b=>
   let:=b9 List.length j;simp at this
 let mQ:ls=[]->z=[]->p=[]:=λe1 e2=>by
  rw[e1,e2] at j;cases p with
  |nil=>rfl
  |cons x r=>
   let j:(if x=10 then []::aN 10 r else match aN 10 r with|[]=>[[x]]|w::l=>(x::w)::l)=[[]]:=j;by_cases Y:x=10
   .rw[ah Y] at j;injection j with _ j;exact absurd j (m5 10 r)
   .rw[ag Y] at j;cases e:aN 10 r with
    |nil=>exact absurd e (m5 10 r)
    |cons w l=>rw[e] at j;cases j
 rw[j] at Z W;let em:ip p=match nW 0 ⟨0,[],[]⟩ ls with
   |.error e=>.error e
   |.ok m=>if p=[]\/z≠[] then .error (1,ls.L) else if qW m=true then .ok m else .error (2,ls.L):=by
  ext ip;rw[j,aud,show(ls++[z]).getLastD []=z by simp]
  try rfl
 let ei:Flags.plateIn Áq=Flags.plateLines 0 ⟨none,[],none⟩ ((ls++[z]).M ë):=by
  ext Flags.plateIn;rw[Z]
 rw[em,ei];let r0:A8 ⟨0,[],[]⟩ ⟨none,[],none⟩:=⟨rfl,.vT rfl rfl (λg J=>absurd J Ä),λ_=>rfl⟩;let v0:zD ⟨0,[],[]⟩:=⟨Or.inl rfl,by decide,by decide,λg J=>absurd J Ä,λg J=>absurd J Ä⟩;let(j1,j2):=go_eq z ls 0 _ _ (λw M=>W w (by simp[M])) r0 v0;cases eg:nW 0 ⟨0,[],[]⟩ ls with
 |error e=>exact(λm F=>(by cases F),λ_ _=>j2 e eg)
 |ok m=>
  let(s',r',v',U):=j1 m eg;rw[U,vc];let el:Flags.plateLines ls.L s' [z.M B]=if z.M B≠[]\/ls.L=0 then .error (1,ls.L) else match s'.over with
    |some z=>.ok z
    |none=>.error (2,ls.L):=rfl
  rw[el];let(o1,o2):=aoR r';by_cases hc:p=[]\/z≠[]
  .let O:z.M B≠[]\/ls.L=0:=by
    rcases hc with hc|hc
    .exact Or.inr (by rw[(l5 hc).1];rfl)
    .exact Or.inl (λq=>hc (À q))
   dsimp only;rw[ah hc,ah O];exact(λm F=>(by cases F),λ_ _=>⟨_,Á⟩)
  .let O:¬(z.M B≠[]\/ls.L=0):=by
    rintro (q|q)
    .exact hc (Or.inr λe=>q (by rw[e];rfl))
    .apply hc ?_;by_cases hz:z=[]
     .exact Or.inl (mQ (RQ.mp q) hz)
     .exact Or.inr hz
   dsimp only;rw[ag hc,ag O];cases M:qW m with
   |true=>
    let(a,b,c):=o1 M;rw[ah rfl,a];apply(λm' F=>?_,λ_ F=>(by cases F));let F:m=m':=by injection F
    subst F;exact(Á,v',v'.cl.resolve_left b,c)
   |false=>
    rw[ag eN,o2 M];exact(λm F=>(by cases F),λ_ _=>⟨_,Á⟩)
def aoS(h:bq p)(e:ip p=.ok m):IB m:=by
 let(_,f):=(ZH h).1 m e;exact(f.cl.1,by let:=f.inv.c6;lia,λg j=>by let:=f.inv.fl g j;lia,f.xK)
def ZI(l i:Nat):Flags.cell l i<16:=Nat.mod_lt _ Ñ
def EI{classes look:LI}(hc:gf classes)(h:gf look){side:Nat}(hs:side=0\/side=1){i:Nat}(hi:i<16):(Àu side).D i 0=((Flags.cell (Flags.seenFrom ĉ side (c7 look)) i:Nat):Int):=by
 let J:∀j,j<16->0<=look.D j 0/\look.D j 0<16:=λj q=>h.2 _ (getD_mem (by rw[h.1];exact q));let z:∀j,j<16->classes.D j 0=((Flags.cell ĉ j:Nat):Int):=λj q=>by
  let:=hc.2 _ (getD_mem (l:=classes) (i:=j) (by rw[hc.1];exact q));rw[DT hc q];grind
 ext Flags.seenFrom Flags.inLight oP;rw[DS _ hi,Nat.mod_eq_of_lt (ZI _ _)];rcases hs with hs|hs
 .rw[ag Å,ah hs,ij,bz,DT h hi];let e:look[i]? =Α (look.D i 0):=by
   rw[ij,cI (by rw[h.1];exact hi)];rfl
  rw[e];let:=J i hi;exact z _ Î
 .rw[ah hs,ag Å,ij,bz,RW hi];ext Flags.behind;let F:=WO hi;rw[DS _ hi,Nat.mod_eq_of_lt (ZI _ _),show 4*(i/4)+(3-i%4)=sG i by ext sG;lia,DT h F];let:=J _ F;exact z _ Å
theorem aoT(P:Nat->Bool):∀n,((List.range n).J P).foldl (λ(n i:Nat)=>n+2^i) 0<2^n/\∀i,i<n->(((List.range n).J P).foldl (λ(n i:Nat)=>n+2^i) 0).testBit i=P i:=by
 intro n;induction n with
 |zero=>exact(by show 0<1;decide,λi hi=>absurd hi (Nat.not_lt_zero _))
 |succ n z=>
  let(j,h2):=z;rw[JQ,Fs,List.foldl_append];generalize ((List.range n).J P).foldl (λ(n i:Nat)=>n+2^i) 0=m at j h2;let F:2^(n+1)=2^n+2^n:=by rw[z4];lia
  cases hp:P n with
  |false=>
   rw[rK,hp,ag eN];apply(by show m<_;omega,λi hi=>?_);rcases auf (Nat.lt_succ_iff.mp hi) with q|q
   .exact h2 i q
   .rw[q,hp];exact B5 j
  |true=>
   rw[rK,hp,ah rfl];apply(by show m+2^n<_;simp_all,λi hi=>?_);show(m+2^n).testBit i=_;rw[abx];rcases auf (Nat.lt_succ_iff.mp hi) with q|q
   .rw[abB q];exact h2 i q
   .rw[q,hp,abC,B5 j];rfl
def aoU(z:s.2.L=16)(hc:uR s.2)(hi:i<16):(iC s).cells.testBit i=!decide (s.2.D i 0=16)/\(¬s.2.D i 0=16->((Flags.cell (iC s).look i:Nat):Int)=s.2.D i 0):=by
 let j:(s.2.M i8).D i none=i8 (s.2.D i 0):=by
  symm
 let hr:=hc _ (getD_mem (l:=s.2) (i:=i) Å);apply(?_,λq=>?_)
 .show(((List.range 16).J λ(i:Nat)=>((s.2.M i8).D i none).isSome).foldl (λ(n i:Nat)=>n+2^i) 0).testBit i=_;rw[(aoT _ 16).2 i hi,j];ext i8;grind
 .show((Flags.cell (Flags.lookOf λ(i:Nat)=>((s.2.M i8).D i none).D 0) i:Nat):Int)=_;rw[DS _ hi,j];ext i8;grind
def aoV(hc:gf classes)(hk:gf k.look)(hd:d=0\/d=1)(j:s.2.L=16)(hs:uR s.2):
  xJ s (jT classes d k)=(((iC s).shape==3||(iC s).shape==(bJ k).shape)&&Flags.sameIn (iC s).cells (Flags.seenFrom ĉ d (bJ k).look) (iC s).look):=by
 let z:((List.range s.2.L).all (xI s.2 (oP k.look classes d)))=Flags.sameIn (iC s).cells (Flags.seenFrom ĉ d (c7 k.look)) (iC s).look:=by
  rw[j];ext Flags.sameIn;rw[qx,jH,jH];apply forall_congr' λi=>forall_congr' λhi=>?_;simp at hi;let(q,J):=aoU j hs hi;rw[q,R8];ext xI;rw[EI hc hk hd hi];grind
 let F:xJ s (jT classes d k)=if s.1≠3/\s.1≠k.shape then false else (List.range s.2.L).all (xI s.2 (oP k.look classes d)):=rfl;rw[F,z];show _=((s.1==3||s.1==k.shape)&&Flags.sameIn (iC s).cells (Flags.seenFrom ĉ d (c7 k.look)) (iC s).look);lia
structure EJ(L:Flags.Locker)(ms:aI)(classes:LI)(d:Nat):Prop where
 hk:L.kinds=ms.M bJ
 lk:∀k∈ms,gf k.look
 cl:gf classes
 d:d=0\/d=1
def aoW(v:Àv d)(z:s.2.L=16)(hs:uR s.2)(f:Nat):(uo Ŧ s).Y f=L.flagFits ĉ d f (iC s):=by
 ext Flags.Locker.flagFits;by_cases j:f<ms.L
 .rw[IM v.hk j];let q:ms.D f eW∈ms:=by
   symm
  show _=(((iC s).shape==3||(iC s).shape==(bJ Ϝ).shape)&&Flags.sameIn (iC s).cells (Flags.seenFrom ĉ d (bJ Ϝ).look) (iC s).look);rw[<-aoV v.cl (v.lk _ q) v.d z hs];let e:(ms.M (jT classes d)).D f (0,[])=jT classes d Ϝ:=by
   symm
  rw[qx,B4];ext uo;symm
 .let:L.kinds[f]? =Β:=by
   rw[v.hk,bz,yk Å];rfl
  rw[this,<-Bool.not_eq_true,B4];ext uo;grind
theorem ZJ(v:Àv d):∀(fs:List (Nat×LI))(h:LN),(∀f∈fs,f.2.L=16/\uR f.2)->h.L=fs.L->L.flagsFit ĉ d h (fs.M iC)=(List.range fs.L).all λi=>((fs.M (uo Ŧ)).D i []).Y (h.D i 0)
 |[],[],_,_=>rfl
 |[],_::_,_,h=>by simp at h
 |_::_,[],_,h=>by simp at h
 |s::fs,f::h,hf,hl=>by
  let q:=ZJ v fs h (λx j=>hf x (aK _ j)) (À hl);let hs:=hf s Ä;show(L.flagFits ĉ d f (iC s)&&L.flagsFit ĉ d h (fs.M iC))=_;rw[q,<-aoW v hs.1 hs.2,dg,zW,tq,rH];rfl
def ZK(v:Àv d){fs:List (Nat×LI)}(j:∀f∈fs,f.2.L=16/\uR f.2){h:LN}{a:Nat}(q:a+fs.L<=h.L):zg a h (fs.M (uo Ŧ))=L.flagsFit ĉ d ((h.drop a).take fs.L) (fs.M iC):=by
 rw[ZJ v fs _ j (by grind)];ext zg;grind
def aoX(v:Àv d){g:iV}(z:∀f∈g.flags,f.2.L=16/\uR f.2){h:LN}(Y:g.flags.L<=h.L):vW h g (zf Ŧ g)=L.fits ĉ d h (iZ g):=by
 ext vW OJ Flags.Locker.fits zf;let el:(iZ g).flags.length=g.flags.L:=ak ..;rw[el,qx,tu,tu];show _↔ ∃x,x∈List.range (h.L+1)/\((x==0||g.above)&&((x+g.flags.L==h.L||(g.below&&decide (x+g.flags.L<=h.L)))&&L.flagsFit ĉ d ((h.drop x).take g.flags.L) (g.flags.M iC)))=true;constructor
 .rintro⟨i,hi,W⟩;simp at hi;generalize ex:oQ g.below (h.L-g.flags.L)+i=x at W;let q:x<=uq g.above (h.L-g.flags.L):=by omega
  let U:oQ g.below (h.L-g.flags.L)<=x:=by lia
  let j:x+g.flags.L<=h.L:=by
   delta uq at q;grind
  apply(x,u7.mpr Î,?_);rw[ZK v z j] at W;rw[W,RX,jG];constructor
  .delta uq at q;grind
  .delta oQ at U;grind
 .rintro⟨x,q,W⟩;rw[jG,jG] at W;let(O,h2,F):=W;let j:x+g.flags.L<=h.L:=by
   lia
  let M:x<=uq g.above (h.L-g.flags.L):=by
   ext uq;grind
  let J:oQ g.below (h.L-g.flags.L)<=x:=by
   ext oQ;lia
  apply(x-oQ g.below (h.L-g.flags.L),u7.mpr (by grind),?_);rw[show oQ g.below (h.L-g.flags.L)+(x-oQ g.below (h.L-g.flags.L))=x by simp_all,ZK v z j];exact F
theorem ZL(v:Àv d):∀(hs:bf)(j:List iV),(∀g∈j,∀f∈g.flags,f.2.L=16/\uR f.2)->hs.L=j.L->(∀(i:Nat)h g,hs[i]? =Α h->j[i]? =Α g->g.flags.L<=h.L)->oR hs j (sI ms classes d j)=L.allFit ĉ d hs (j.M iZ)
 |[],[],_,_,_=>rfl
 |[],_::_,_,h,_=>by simp at h
 |_::_,[],_,h,_=>by simp at h
 |h::hs,g::j,hf,hl,hw=>by
  let F:=ZL v hs j (λx z=>hf x (aK _ z)) (À hl) (λi a b q h2=>hw (i+1) a b q h2);show(vW h g (zf Ŧ g)&&oR hs j (sI ms classes d j))=(L.fits ĉ d h (iZ g)&&L.allFit ĉ d hs (j.M iZ));rw[F,aoX v (hf g Ä) (hw 0 h g rfl rfl)]
theorem aoY:∀(cs rows:bf),cs.foldl qm rows=rows.flatMap λr=>(Flags.rowsFrom cs).M (r++ ·):=by
 intro cs;induction cs with
 |nil=>
  intro rows;show rows=rows.flatMap λr=>[r++[]];induction rows with
  |nil=>rfl
  |cons a l j=>rw[z7,<-j,jF];rfl
 |cons c cs j=>
  intro rows;rw[Fu,j];ext qm;rw[List.flatMap_assoc];congr 1;funext r;rw[R9];show _=(c.flatMap λ(x:Nat)=>(Flags.rowsFrom cs).M λ(y:LN)=>x::y).M (r++ ·);rw[Sa];congr 1;funext x;rw[cj];congr 1;funext y;simp
theorem ZM:∀(cs:bf),[]∈cs->Flags.rowsFrom cs=[]
 |c::cs,h=>by
  show(c.flatMap λ(x:Nat)=>(Flags.rowsFrom cs).M λ(y:LN)=>x::y)=[];rcases a8.mp h with h|h
  .rw[<-h];rfl
  .rw[ZM cs h];exact List.flatMap_eq_nil_iff.mpr λ_ _=>Á
def ZN(cs:bf):wk cs=Flags.rowsFrom cs:=by
 ext wk;split
 .rename_i h;rw[ZM cs (B4.mp h)]
 .ext mv;rw[aoY];simp
theorem ZO(cs:bf):∀(x:LN),x∈Flags.rowsFrom cs->x.L=cs.L/\∀(i:Nat)n c,x[i]? =Α n->cs[i]? =Α c->n∈c:=by
 induction cs with
 |nil=>
  intro x h;let h:x∈[[]]:=h;simp at h;subst h;exact(Á,λi n c h=>(by simp at h))
 |cons c cs O=>
  intro x h;let h:=h;let(a,J,h):=jg.mp h;let(y,M,rfl):=bG.mp h;let(F,h2):=O y M;apply(by rw[dg,dg,F],λi n z j q=>?_);cases i with
  |zero=>
   simp at j;simp at q;rw[<-j,<-q];exact J
  |succ i=>exact h2 i n z (À j) (À q)
section
variable{L:Flags.Locker}{B:Flags.Book}{ms:aI}{rows:bf}
def aoZ(j:B.entries.M Flags.Entry.row=rows)(g:iV):sP rows g=B.may (iZ g):=by
 ext sP Flags.Book.may;let z:rows.L=B.entries.L:=by rw[<-j,ak]
 rw[z];apply JW;intro i hi;let hi:i<B.entries.L:=À hi
 let el:oh rows i=(B.entries[i]).row.length:=by
  ext oh;rw[<-j,ij,bz,cI hi];rfl
 let q:(iZ g).flags.length=g.flags.L:=ak ..;rw[cI hi];dsimp only;rw[q];ext Bz;rw[el];show _=if (g.above||g.below)=true then _ else _;cases h:(g.above||g.below) with
 |true=>
  rw[ah rfl,nt,qx,Bool.or_eq_true,Sb,Sb,Sb];omega
 |false=>
  rw[ag eN,mG,abf,qx,Sb,zS]
def ZP(q:B.entries.M Flags.Entry.row=rows)(j:List iV):lR rows j=(j.M iZ).M B.may:=by
 ext lR;rw[cj];apply iT;intro g _;exact aoZ q g
def ao0(j:B.entries.M Flags.Entry.row=rows)(m:eV):uJ rows m.ao=B.inDoubt ϗ:=by
 ext uJ iw Flags.Book.inDoubt;rw[ZP j,cj];rfl
theorem ao1(q:B.entries.M Flags.Entry.row=rows)(x:LN):(∀n∈x,n<rows.L)->B.rowsOf x=Α Âf:=by
 induction x with
 |nil=>exact @λ_=>Á
 |cons n x j=>
  intro h;let j:=j λz hz=>h z (aK _ hz);let F:n<B.entries.L:=by
   let:=h n Ä;rw[<-q,ak] at this;exact this
  delta Flags.Book.rowsOf at j⊢;rw[JN,j,cI F];ext jW;rw[a7,<-q];congr 2;rw[ij,bz,cI F];rfl
def ZQ(h:n∈sP rows g):n<rows.L/\g.flags.L<=(rows.D n []).L:=by
 delta sP at h;let(j,h2):=iz.mp h;apply(by simp_all,?_);delta Bz oh at h2;lia
structure ao2(L:Flags.Locker)(B:Flags.Book)(ms:aI)(rows:bf)(m:eV)(x:LN)(hs:bf)(ss:LN):Prop where
 r:uI ms rows m.ao (mw ms m) x=if ss=[] then none else some (x,hs,ss)
 f:∀{β:Type}(f:Nat->bf->β),((Flags.sides (fX m).side).filterMap λ(d:Nat)=>(L.mayFrom B ϗ x d).M (f d))=ss.M λd=>f d hs
 a:∀d∈ss,(d=0\/d=1)/\L.allFit Àn d hs (m.ao.M iZ)=true
 n:ss.L<=2
theorem ao3{β:Type}(g:Nat->Option β)(l:LN):∀(p:Nat->Bool)(f:Nat->β),(∀d∈l,g d=if p d=true then some (f d) else none)->l.filterMap g=(l.J p).M f:=by
 intro p f h;induction l with
 |nil=>rfl
 |cons d l j=>
  let q:=h d eO;let j:=j λy z=>h y (aK _ z);rw[BV,q,rK];cases p d
  .simpa using j
  .simpa using j
def ZR(hk:L.kinds=ms.M bJ)(g:uO ms)(lk:∀k∈ms,gf k.look)(hb:B.entries.M Flags.Entry.row=rows)(sg:xX ms rows)(M:xZ m)(x:LN)(hx:x∈Flags.rowsFrom Éh):∃hs ss,ao2 L B ms rows m x hs ss:=by
  let(oS,gY):=ZO _ _ hx;let gH:(lR rows m.ao).L=m.ao.L:=ak ..;let jY:∀(i:Nat)n,x[i]? =Α n->∃gl,m.ao[i]? =Α gl/\n∈sP rows gl:=λi n e=>by
   let hi:i<m.ao.L:=by
    grind
   apply(_,cI hi,gY i n _ e ?_);ext lR;symm
  let bO:∀n∈x,n<rows.L:=λn hn=>by
   let(i,hi,e):=nr hn;let(gl,_,h):=jY i n (by grind);exact(ZQ h).1
  let W:xX ms Âf:=λr hr=>by
   let(n,hn,rfl):=bG.mp hr;apply sg _ ?_;symm
  let hd:=P8 hk g W;let nj:=λhs h=>Yv (ms:=ms) (rows:=jW rows x) (hs:=hs) h;let q:∀d,L.mayFrom B ϗ x d=if L.canShowAll Âf=true/\L.allFit Àn d (L.displayed Âf) (m.ao.M iZ)=true then some (L.displayed Âf) else none:=λd=>by
   ext Flags.Locker.mayFrom;rw[ao1 hb x bO];rfl
  let O:∀d∈Flags.sides (fX m).side,d=0\/d=1:=λd q=>by
   let hs:=M.inv.sd;let q:d∈(if m.side=2 then [0,1] else [m.side]):=q;grind
  let qD:(Flags.sides (fX m).side).L<=2:=by
   show(if m.side=2 then [0,1] else [m.side]).L<=2;split
   .exact bA _
   .exact Fi _
  by_cases j:L.canShowAll Âf=true
  .rw[ah j] at hd;let U:=nj _ hd;let ht:=eq_true j;simp only[ht,true_and] at q;generalize L.displayed Âf=hs at U q hd;let wq:∀d,d=0\/d=1->oR hs m.ao Âs=L.allFit Àn d hs (m.ao.M iZ):=λd hd=>by
    apply ZL ⟨hk,lk,M.cl,hd⟩ hs m.ao (λgl n0 f hf=>⟨M.xK gl n0 f hf,(M.inv.ce gl n0 f hf).2⟩) ?_ λi h gl J h2=>?_
    .let:=b9 List.length U;rw[ak,ak] at this;delta jW at this;symm
    .let F:Àz[i]? =Α h.L:=by rw[bz,J];rfl
     rw[U,bz] at F;delta jW at F;rw[bz] at F;cases ex:x[i]? with
     |none=>symm
     |some n=>
      rw[ex] at F;let F:(rows.D n []).L=h.L:=À F
      let(gl',Y,Z):=jY i n ex;rw[h2] at Y;rw[<-aQ Y] at Z;let:=(ZQ Z).2;symm
   let es:sS (mw ms m) m.ao hs=(Flags.sides (fX m).side).J λd=>oR hs m.ao Âs:=by
    ext sS mw;rw[wI,cj];exact List.map_id _
   apply(hs,sS (mw ms m) m.ao hs,?_,λf=>?_,λd hd=>?_,?_)
   .ext uI;rw[hd]
   .rw[es];apply ao3 _ _ _ _ λd hd=>?_;rw[q,<-wq d (O d hd)];cases oR hs m.ao Âs <;> rfl
   .rw[es] at hd;let(J,h2):=iz.mp hd;rw[<-wq d (O d J)];exact(O d J,h2)
   .rw[es];exact gn (B3 ..) qD
  .rw[ag j] at hd;apply([],[],?_,λf=>?_,λd hd=>(by cases hd),di _)
   .ext uI;rw[hd];rfl
   .apply auh.mpr λd _=>?_;rw[q,ag λz=>j z.1];rfl
def ZS(hk:L.kinds=ms.M bJ)(g:uO ms)(lk:∀k∈ms,gf k.look)(j:B.entries.M Flags.Entry.row=rows)(sg:xX ms rows)(M:xZ m):(Àr m).M (·.1)=L.readings B ϗ:=by
 ext jc Flags.Locker.readings;let q:(fX m).hoists.map B.may=lR rows m.ao:=(ZP j m.ao).symm;rw[q,ZN];let F:∀x∈Flags.rowsFrom Éh,(uI ms rows m.ao (mw ms m) x).M (·.1)=if ((Flags.sides (fX m).side).any λ(d:Nat)=>(L.mayFrom B ϗ x d).isSome)=true then some x else none:=λx J=>by
  let(hs,ss,h):=ZR hk g lk j sg M x J;let h2:=h.f λd _=>d;let e:((Flags.sides (fX m).side).any λ(d:Nat)=>(L.mayFrom B ϗ x d).isSome)=true↔ss≠[]:=by
   rw[abw] at h2;rw[<-h2,Ne,auh,tu];simp[Option.isSome_iff_ne_none]
  rw[h.r];by_cases hz:ss=[]
  .rw[ah hz,ag λz=>e.mp z hz];rfl
  .rw[ag hz,ah (e.mpr hz)];rfl
 generalize Flags.rowsFrom Éh=X at F;induction X with
 |nil=>rfl
 |cons x X O=>
  grind
end
def IR(j:bq t)(h:gM t=Α x):∀k∈x.2,gf k.look:=λk hk=>((IQ j h).kv k hk).lk
def ao5(j:bq line)(h:fJ w line=Α n):bq n:=by
 delta fJ at h;split at h
 .rename_i a c q;split at h
  .rw[<-aQ h];exact qS 32 j c Å
  .symm
 .cases h
def ao6(j:bq t)(h:gM t=Α x):bq x.1:=by
 delta gM at h;split at h
 .rename_i l r e;let q:bq l:=by
   delta kH at e;split at e
   .let e:=aQ e;let:l∈(aN 10 t).dropLast:=by rw[e];exact eO
    exact qS 10 j l (B1 _ this)
   .symm
  cases e1:fJ (codes "locker") l with
  |none=>rw[e1,DP] at h;cases h
  |some n=>
   cases e2:hJ r with
   |none=>rw[e2,DO] at h;cases h
   |some ms=>
    rw[e1,e2] at h;let h:(if (oN ms&&pY ms)=true then some (n,ms) else none)=Α x:=h;split at h
    .rw[<-aQ h];exact ao5 q e1
    .symm
 .cases h
theorem ao7{ms:aI}{r:dJ}:∀{es:List (LN×LI)},jv ms r=Α es->xX ms (es.M (·.1)):=by
 induction r with
 |nil=>
  intro es h;rw[<-aQ h];intro r hr;cases hr
 |cons l r j=>
  intro es h;delta jv at h;cases e1:iP ms l with
  |none=>rw[e1] at h;cases h
  |some e=>
   cases e2:jv ms r with
   |none=>rw[e1,e2] at h;cases h
   |some q=>
    rw[e1,e2] at h;rw[<-aQ h];intro row hr;rcases a8.mp hr with rfl|hr
    .exact λs hs=>((Pt e1).2 s hs).2
    .exact j e2 row hr
def Qh{nm:LI}{ms:aI}{b:LI}{y:LI×List (LN×LI)}(h:lQ nm ms b=Α y):xX ms (y.2.M (·.1)):=by
 delta lQ book1 at h;split at h
 .split at h
  .delta Pq at h;split at h
   .symm
   .split at h
    .delta Il at h;split at h
     .rename_i es e;split at h
      .rw[<-aQ h];exact ao7 e
      .symm
     .symm
    .symm
  .symm
 .cases h
def zE(x:LI×aI):Flags.Locker:=⟨x.1.M B,x.2.M bJ⟩
def zF(y:LI×List (LN×LI)):Flags.Book:=⟨y.1.M B,y.2.M o9⟩
def IS(y:LI×List (LN×LI)):(zF y).entries.map Flags.Entry.row=y.2.M (·.1):=by
 ext zF;rw[cj];rfl
def ao8(J:bq t)(hb:bq b)(hp:bq p)(f:Flags.Locker->Flags.Book->Flags.Plate->bf->Flags.Reply):
  (∀z,ŵ p=Α z->FlagsK9.ofAll Án Ϟ Áq f=Flags.says z)/\
  (ŵ p=Β->∀x y m,gM t=Α x->lQ x.1 x.2 b=Α y->ip p=.ok m->xZ m/\FlagsK9.ofAll Án Ϟ Áq f=f (zE x) (zF y) ϗ ((jc x.2 (y.2.M (·.1)) m).M (·.1))):=by
 ext refusal FlagsK9.ofAll;rw[ak,ak,ak];let h0:Flags.LOOKED=65536:=rfl;rw[h0];by_cases q:65536<t.L\/65536<b.L\/65536<p.L
 .rw[ah q,ah q];exact(λz hz=>by rw[<-aQ hz];rfl,λh=>(by cases h))
 .rw[ag q,ag q];let(l1,l2):=aj0 J;cases el:gM t with
  |none=>
   let(e,j):=l2 el;rw[j];exact(λz hz=>by rw[<-aQ hz];rfl,λh=>(by cases h))
  |some x=>
   rw[l1 x el];dsimp only;let lf:=IQ J el;let(W,Y):=aoJ (L:=zE x) (nm:=x.1) (ms:=x.2) rfl rfl (ao6 J el) lf (aos el) hb;cases eb:lQ x.1 x.2 b with
   |none=>
    let(e,j):=Y eb;rw[show(⟨x.1.M B,x.2.M bJ⟩:Flags.Locker)=zE x from rfl,j];exact(λz hz=>by rw[<-aQ hz];rfl,λh=>(by cases h))
   |some y=>
    rw[show(⟨x.1.M B,x.2.M bJ⟩:Flags.Locker)=zE x from rfl,W y eb];let(p1,p2):=ZH hp;cases ep:ip p with
    |error e=>
     let(e',j):=p2 e ep;rw[j];exact(λz hz=>by rw[<-aQ hz];rfl,λh=>(by cases h))
    |ok m=>
     let(q1,U):=p1 m ep;rw[q1];dsimp only;let Z:=ao0 (IS y) m;rw[show(⟨y.1.M B,y.2.M o9⟩:Flags.Book)=zF y from rfl,<-Z,show Flags.DOUBT=1024 from rfl];by_cases hd:1024<uJ (y.2.M (·.1)) m.ao
     .rw[ah hd,ah hd];exact(λz hz=>by rw[<-aQ hz];rfl,λh=>(by cases h))
     .rw[ag hd,ag hd];apply(λz hz=>(by cases hz),λ_ x' y' m' M F O=>?_);let M:=aQ M;subst M;rw[eb] at F;let F:=aQ F;subst F;let O:m=m':=by injection O
      subst O;apply(U,?_);rw[ZS (L:=zE x) (B:=zF y) rfl (EG lf) (IR J el) (IS y) (Qh eb) U]
end HD
namespace HD
open PySem PySem.Spec PyProof.Rows L2
open PySem.W (Codec)
def sW:Nat->Nat->Nat
 |0,_=>0
 |k+1,n=>n%2+sW k (n/2)
theorem ZT:∀k,sW k 0=0
 |0=>rfl
 |k+1=>by
  ext sW;rw[ZT k]
@[irreducible] def uS (c:Nat):Nat:=sW 40 c
def ZU(c:Nat):uS c=sW 40 c:=by ext uS;rfl
def ao9(c:Nat):Builtin.bitAnd ((c:Nat):Int) 1=((c%2:Nat):Int):=by
 rw[show(1:Int)=((1:Nat):Int) from rfl,bitAnd_nn,at7]
inductive Qi(vs:ay)(H:Hp)(Q:VK)(E':XK):Prop
 |mk (c:Nat) (_:vs=[.int ((c:Nat):Int)]) (_:c<2^40) (_:∀H',ai H H'->Q (.int ((uS c:Nat):Int)) H')
section
variable{P:Pg}{w:Wd}{K:FR}{mg:MG}{base:Heap}{CA CR:Addr}
def IT:bC ["choice","ones"] ["choice"] (ba MK):=cg
def apa{f:Addr}{fd:FD}(F:br K "how_many" "how_many" MK f fd):Ë 1 f fd ["choice"] Qi:=by
 refine F.ok IT Â;let(M,rfl,U,k):=h;refine⟨_,aB (cf 1 IT.nd bc)
  (aB (SE jI (cw rW Ø bc (bU _)) (aB (SD (i:=1) IT.nd rfl Çs (d9 yy Ø bc) SK) (aA (cf 0 IT.nd (d9 Km Ø bc)))))
  Âv),?_⟩
 refine⟨λm σ J=>∃j c o:Nat,σ=[some (.int ((c:Nat):Int)),some (.int ((o:Nat):Int))]/\m=c/\ai H J/\c<2^j/\o+sW j c=sW 40 M,
  ⟨_,40,M,0,rfl,rfl,ai.refl H,U,by simp_all⟩,?_⟩
 rintro m σ J ⟨j,c,o,rfl,rfl,O,hc,e⟩;apply(_,Á,_,_,Á,Á,_,Á,a0 (λz=>?_) (λz=>?_))
 .let z:0<m:=by let:=mO z;omega
  cases j with
  |zero=>omega
  |succ j=>
   let e:o+(m%2+sW j (m/2))=sW 40 M:=e;apply(_,λσ' H' q=>⟨m/2,by omega,q⟩,_,Á,_,Á,_,_,Á,Á,_,_,Á,Á,_,Á,_,_,Á,Á,Ñ,j,m/2,o+m%2,?_,Á,O,by rw[z4] at hc;omega,by omega);rw[ao9];show[some (V.int (((m:Nat):Int)/2^1)),some (V.int (((o:Nat):Int)+((m%2:Nat):Int)))]=_;rw[show(((m:Nat):Int)/2^1)=((m/2:Nat):Int) by omega,show(((o:Nat):Int)+((m%2:Nat):Int))=((o+m%2:Nat):Int) by omega]
 .let z:m=0:=by simpa using z
  subst z;rw[ZT] at e;refine Ę;rw[RP] at e;rw[e,<-ZU];exact k J O
def sX(c:Nat)(j:LN):Bool:=j.all λd=>decide (c&&& d≠0)
inductive Qj(vs:ay)(H:Hp)(Q:VK)(E':XK):Prop
 |mk (c:Nat) (p:Addr) (ds:LN) (_:vs=[.int ((c:Nat):Int),.ref p]) (_:H p=Α (.lst (iv (nv ds)))) (_:∀H',ai H H'->Q (.bl (sX c ds)) H')
def ZV:bC ["choice","differences","flags"] ["choice","differences"] (ba MJ):=cg
def apb{f:Addr}{fd:FD}(F:br K "settles" "settles" MJ f fd):Ë 1 f fd ["choice","differences"] Qj:=by
 refine F.ok ZV Â;let(c,p,q,rfl,W,k):=h;refine⟨_,aB (i6 jI Á Åd (cZ 2 ZV.nd) (aA (dj (cw iB (d9 yy Ø å) bc (bU _)) ϫ dQ)))
  ϫ,?_⟩
 refine⟨_,Á,p,Á,⟨_,aa.of W⟩,pJ (K:=K) (a:=p) (xs:=iv (nv q)) (λi σ H'=>∃v:Option V,σ=[some (.int ((c:Nat):Int)),some Ĝ,v]/\ai H H'/\∀d∈q.take i,c&&& d≠0)
  ⟨none,rfl,ai.refl H,by simp⟩ (λi σ H' _ ⟨_,_,Z,_⟩=>aa.of (Z _ _ W)) ?_ ?_⟩
 .rintro i v σ M hi ⟨v2,rfl,J,hd⟩;let(d,U,rfl):=jr hi;apply(_,Á,_,Á,_,_,Á,Á,Á,_,Á,?_);rw[bitAnd_nn];refine a0 Ï Ï
  .let O:c&&& d=0:=by let:=mO hc;simpa using this
   let:=k M J;rw[show sX c q=false by
    ext sX;rw[List.all_eq_false];exact(d,bj U,by simp[O])] at this
   exact this
  .let O:c&&& d≠0:=λz=>hc (by simp[z]);apply(_,Á,J,λy j=>?_);rw[take_snoc U] at j;rcases fu.mp j with j|j
   .exact hd y j
   .rw[iS.mp j];exact O
 .rintro σ M ⟨v2,rfl,J,hd⟩;let:=k M J;rw[dw,gO,i4] at hd;rw[show sX c q=true by
   ext sX;rw[jH];exact λd Y=>eP (hd d Y)] at this
  exact this
def gi(bits:LN):LN:=bits.foldl (λcs b=>cs++cs.M (· +b)) [0]
def Qk(l:LN)(b:Nat):gi (l++[b])=gi l++(gi l).M (· +b):=by
 ext gi;rw[List.foldl_append];rfl
def ZW(l:LN):(gi l).L=2^l.L:=by
 refine snoc_ind (P:=λl=>(gi l).L=2^l.L) Á Ϙ l;rw[Qk,j4,ak,ih,j4,abF,z4];lia
inductive ZX(vs:ay)(H:Hp)(Q:VK)(E':XK):Prop
 |mk (p:Addr) (bits:LN) (_:vs=[.ref p]) (_:H p=Α Ãu) (_:bits.L<=12) (_:∀H' r,Ů r (.lst (iv (nv (gi bits))))->Q ϣ H')
def BJ:bC ["bits","choices","bit","choice"] ["bits"] (ba MI):=cg
def apc{f:Addr}{fd:FD}(F:br K "choices_of" "choices_of" MI f fd):Ë 1 f fd ["bits"] ZX:=by
 refine F.ok BJ Â;let(p,bits,rfl,U,hl,k):=h;refine⟨_,aB (cf 1 BJ.nd (dv (ae bc af)))
  (aB (Į Åe (cZ 2 BJ.nd) (aA (cf 1 BJ.nd (d9 Ts á
   (eA (own:=[("choice",3)]) (te:=bQ (gE λi j=>.int (i+j)) Ŀ ř) rfl BJ.nd Åd Ê (λ_ _ _ _ _=>cZ 3 BJ.nd) Ò (λ_ _ _ _ _=>d9 pK ö å))))))
  Âv),?_⟩
 apply((by show 1<=sizeLine;decide),λr O=>?_);refine⟨_,Á,p,Á,⟨_,aa.of ((aG O) _ _ U)⟩,pJ (K:=K) (a:=p) (xs:=iv (nv bits)) (λi σ H'=>∃(v:Option V)(q:Addr),σ=[some Ĝ,some Åt,v,none]/\Ů q (.lst (iv (nv (gi ϓ)))))
  ⟨none,r,rfl,aG O,O,by rw[aq];rfl⟩ (λi σ H' _ ⟨_,_,_,n⟩=>aa.of (n.1 _ _ U)) ?_ ?_⟩
 .rintro i v σ J hi ⟨Z,q,rfl,z⟩;let(b,M,rfl):=jr hi;let dm:=(bo.mp M).1;let bZ:(gi ϓ).L<=4096:=by
   rw[ZW];refine gn (ym Ñ (show(bits.take i).L<=12 by rw[iR];grind)) Ñ
  refine⟨_,Á,_,Á,q,Á,⟨_,aa.of z.2.2⟩,λD hD=>fV (K:=K) (a:=q) (xs:=iv (nv (gi ϓ))) (fe J D λj=>(((gi ϓ).D j 0+b:Nat):Int)) Áa (λj H' _ f=>aa.of (f.1 _ _ z.2.2)) Äm Àx⟩
  .let(c,hc,rfl):=jr hj;let oC:=(bo.mp hc).1;apply(Á,eJ ⟨_,Á,_,Á,_,_,Á,Á,fe.step hD Î f Ĥ ?_⟩);rw[getD_at hc];rfl
  .let hd:=f.2;rw[dw,gO] at hd;let e:(List.range (gi ϓ).L).M (λj=>(((gi ϓ).D j 0+b:Nat):Int))=nv ((gi ϓ).M (· +b)):=by
    ext nv;rw[cj];exact vU (l:=gi ϓ) (g:=λc=>((c+b:Nat):Int)) (d:=0)
   rw[e] at hd;apply(q,D,_,_,Á,Á,f.1 _ _ z.2.2,hd,?_,λY W=>⟨_,Y,Á,(z.1.R f.1).R (aG W),(z.1.R f.1).free W,?_⟩)
   .rw[dw,gO,dw,gO,ak];exact tm (f7 Î)
   .rw[aq,take_snoc M,Qk];simp[nv]
 .rintro σ J ⟨Z,q,rfl,z⟩;rw[dw,gO,i4] at z;exact(_,Á,k J q z)
end
structure rE where
 a:Addr
 c:Addr
 sh:Nat
 cells:LI
def wt(t:rE):jo:=[(t.a,.tup [.int ((t.sh:Nat):Int),.ref t.c]),(t.c,.lst (iv t.cells))]
def rE.m(t:rE):Nat×LI:=(t.sh,t.cells)
structure i3 where
 a:Addr
 dx:Addr
 en:dc
 fl:Addr
 fs:List rE
def Ql(p:i3):List (Str×V):=[("entries",.ref p.en.a),("flags",.ref p.fl)]
def ZY(p:i3):(Ql p).Q ("entries":Str)=Α (.ref p.en.a):=gK
def ZZ(p:i3):(Ql p).Q ("flags":Str)=Α (.ref p.fl):=(fm É).R gK
structure rF(CA:Addr)(H:Hp)(p:i3):Prop where
 a:H p.a=Α (.ins CA p.dx (Ql p))
 en:H p.en.a=Α (.lst (iv (nv p.en.ns)))
 fl:H p.fl=Α (.lst (p.fs.M λt=>V.ref t.a))
 fs:∀t∈p.fs,aU H (wt t)
def rF.same{CA:Addr}{H H':Hp}{p:i3}(h:rF CA H p)(s:ai H H'):rF CA H' p:=⟨s _ _ h.a,s _ _ h.en,s _ _ h.fl,λt j=>(h.fs t j).E s⟩
abbrev Face:=Nat×LI
def i3.m(p:i3):LN×List Face:=(p.en.ns,p.fs.M rE.m)
def Qm(f g:List Face)(bits:LN):Int:=(p7 (λi=>!decide (f[i]? =g[i]?)) (λi=>((bits.D i 0:Nat):Int)) bits.L).sum
abbrev IU(t:Face):PyData:=.tuple [.int ((t.1:Nat):Int),.list (t.2.M PyData.int)]
def apd(t u:Face):PyData.eqv (IU t) (IU u)=decide (t=u):=by
 let(a,l):=t;let(b,m):=u;simp only[PyData.eqv,PyData.eqvAll,xn];by_cases j:a=b
 .subst j;by_cases h2:l=m
  .subst h2;simp
  .simp[h2]
 .let:¬((a:Int)=(b:Int)):=by lia
  simp[j,this]
def Z0(t:Face):SeqAt.shaped (IU t)=true:=by
 ext SeqAt.shaped;rw[jG,lY];let j:=Lf t.2;let h2:=Lg t.2;refine Ϧ
 .simp only[PyData.canLay0,PyData.canLayAll0,j,JK]
 .simp only[PyData.depth,PyData.depthAll];lia
def Z1{K:FR}{H:Hp}{t:rE}(h:aU H (wt t)):Ál (.ref t.a) (IU t.m):=by
 let j:H t.a=Α (.tup [.int ((t.sh:Nat):Int),.ref t.c]):=h (t.a,_) (by simp[wt]);let h2:H t.c=Α (.lst (iv t.cells)):=h (t.c,_) (by simp[wt]);exact .tup (bw.of j) (.cons (.int _) (.cons (.lst (aa.of h2) (qN _)) .nil))
inductive Z2(CA:Addr)(vs:ay)(H:Hp)(Q:VK)(E':XK):Prop
 |mk (p q:i3) (pb:Addr) (bits:LN) (_:vs=[.ref p.a,.ref q.a,.ref pb]) (_:rF CA H p) (_:rF CA H q) (_:H pb=Α Ãu) (_:bits.L<=1000) (_:bits.L<=p.fs.L) (_:bits.L<=q.fs.L) (_:∀H',ai H H'->Q (.int (Qm p.m.2 q.m.2 bits)) H')
section
variable{P:Pg}{w:Wd}{K:FR}{mg:MG}{base:Heap}{CA CR CK:Addr}{C:Cs}
def Qn:bC ["one","other","bits","place","bit"] ["one","other","bits"] (ba MH):=cg
def ape{f:Addr}{fd:FD}(F:br K "difference" "difference" MH f fd)(T:jt K CA ["entries","flags"])(tS:mg "sum"=Β)(tE:mg "enumerate"=Β):Ë 1 f fd ["one","other","bits"] (Z2 CA):=by
 refine F.ok Qn Â;let(p,q,Z,bits,rfl,hp,hq,Y,hl,hlp,hlq,k):=h;refine⟨_,aA (aV (c8 (KF Á) Ð tS boot_sum (ae (eA (own:=[("place",3),("bit",4)]) (g:=g2 K 3 4) (tt:=mX (bQ (TU K) (bQ Ũ (fj K Ų "flags") Ŀ) (bQ Ũ (fj K ž "flags") Ŀ))) (te:=ax 4) Á Qn.nd
   (jO Ð tE ł) Ê (λ_ _ _ _ _=>iA 3 4 Qn.nd)
   (λ_ _ _ _ _=>oE (cw (F2 hr.units) (cJ c9 ÿ ö Ö) (cJ c9 Ň ö Ö) (bU _))) (λ_ _ _ _ _=>pv 4)) af))),?_⟩
 apply(_,Á,Z,_,Á,aa.of Y,λD W=>mh (K:=K) (a:=Z) (xs:=iv (nv bits)) (ni H D (λi=>!decide (p.m.2[i]? =q.m.2[i]?)) (λi=>((bits.D i 0:Nat):Int))) (ni.zero W) (λi H2 _ f=>aa.of (f.1 _ _ Y)) (λi x Tt H2 hi f2 hT=>?_) Åw)
 .let(z,hz,rfl):=jr hi;let dm:=(bo.mp hz).1;let M:ai H2 (Ū (.tup [.int (i:Nat),.int ((z:Nat):Int)])):=aG hT;let s3:=f2.1.R M;let qA:=hp.E s3;let U:=hq.E s3;let j:p.fs[i]? =Α p.fs[i]:=cI (by omega);let J:q.fs[i]? =Α q.fs[i]:=cI (by omega);refine è;apply(_,Á,aY qA.a T.1 (T.2 _ Ä) (ZZ p) ⟨_,Á,p.fl,_,_,.ref p.fs[i].a,Á,Á,aa.of qA.fl,fZ (by rw[bz,j];rfl),_,Á,aY U.a T.1 (T.2 _ Ä) (ZZ q) ⟨_,Á,q.fl,_,_,.ref q.fs[i].a,Á,Á,aa.of U.fl,fZ (by rw[bz,J];rfl),_,_,Z1 (qA.fs _ (bj j)),Z1 (U.fs _ (bj J)),Z0 _,Z0 _,_,Á,?_⟩⟩);rw[apd];let O:(!decide (p.m.2[i]? =q.m.2[i]?))=!decide (p.fs[i].m=q.fs[i].m):=by
   ext i3.m;rw[bz,bz,j,J];simp
  refine a0 Ï Ï
  .exact(_,Á,f2.yes W Î M (O.R hc) (by rw[getD_at hz]))
  .exact f2.no M (by rw[O];exact hc)
 .let e:=f2.2;rw[dw,gO] at e;exact(D,_,Á,aa.of e,k H2 f2.1)
end
def zG(j n:Nat):LN:=(List.range n).M λp=>2^(8*j+p)
def fQ(M:LN):LN:=M.zipIdx.flatMap λx=>zG x.2 x.1
def Z3(l:LN)(n:Nat):fQ (l++[n])=fQ l++zG l.L n:=by
 ext fQ;rw[aui,wH];simp
def Qo(l:LN):(fQ l).L=l.sum:=by
 refine snoc_ind (P:=λl=>(fQ l).L=l.sum) Á Ϙ l;rw[Z3,j4,ih,Ft];simp[zG]
theorem IV{l:LN}(h:∀x∈l,x<=100):l.sum<=100*l.L:=by
 induction l with
 |nil=>simp
 |cons x l q=>
  let z:=h x eO;let h2:=q λy j=>h y (aK _ j);rw[gq,dg];lia
inductive Z4(C:Cs)(vs:ay)(H:Hp)(Q:VK)(E':XK):Prop
 |mk (p:dZ) (_:vs=[.ref p.a]) (_:rj C H p) (_:∀H' r,Ů r (.lst (iv (nv (fQ (p.ao.M λg=>g.flags.L)))))->Q ϣ H')
section
variable{P:Pg}{w:Wd}{K:FR}{mg:MG}{base:Heap}{CA CR CK:Addr}{C:Cs}
def EK:bC ["plate","bits","j","glimpse","place"] ["plate"] (ba MC):=cg
def apf{f:Addr}{fd:FD}(F:br K "bits_of_flags" "bits_of_flags" MC f fd)(T:lx K C)(tL:mg "len"=Β)(tR:mg "range"=Β)(tE:mg "enumerate"=Β)(cF:Cn mg "MOST_FLAGS" Éo):Ë 1 f fd ["plate"] (Z4 C):=by
 refine F.ok EK Â;let(p,rfl,z,k):=h;refine⟨_,aB (cf 1 EK.nd Ĩ)
  (aB (Į Éi (iA 2 3 EK.nd) (aA (pI (ó á (ae
   (eA (own:=[("place",4)]) (te:=bQ (rI Kk λi j=>.int (i*2^j.toNat)) Äq (bQ (gE λi j=>.int (i+j)) (bQ (rI FS λi j=>.int (i*j)) (tC Éo) ř) Ãt)) rfl EK.nd
    (FJ Ð tR (ae (c8 gv Ð tL PySem.boot_len (ae Ãp af)) af)) Ê
    (λ_ _ _ _ _=>cZ 4 EK.nd) Ò (λ_ _ _ _ _=>d9 FT bc (d9 pK (d9 SJ (cu cF) å) ę))) af)))))
  Âv),?_⟩
 apply(di _,λD U=>?_);let s1:ai H (upd H D ã):=aG U;let mQ:=z.E s1;let Yz:=z.c6;refine⟨_,Á,aY mQ.l.pl T.cP T.m8 Äx ⟨p.gl,_,Á,aa.of mQ.l.gl,Le (K:=K) (a:=p.gl) (xs:=p.ao.M λg=>V.ref g.a) (λi σ H'=>∃Y Z:Option V,σ=[some ϭ,some ϔ,Y,Z,none]/\ai H H'/\H' D=Α (.lst (iv (nv (fQ ((p.ao.M λg=>g.flags.L).take i))))))
  ⟨none,none,rfl,s1,aq⟩ (λi σ H' _ ⟨_,_,_,M,_⟩=>aa.of (M _ _ z.l.gl)) ?_ ?_⟩⟩
 .rintro i x Tt σ H2 hi ⟨Y,Z,rfl,M,J⟩ hT;let(g,W,rfl):=gQ hi;let dm:=(bo.mp W).1;let HC:=bj W;let n0:=z.flags g HC;let O:ai H2 (Ū (.tup [.int (i:Nat),.ref g.a])):=aG hT;let EL:(Ū (.tup [.int (i:Nat),.ref g.a])) Tt=Α (.tup [.int (i:Nat),.ref g.a]):=aq;generalize upd H2 Tt (.tup [.int (i:Nat),.ref g.a])=H3 at O EL;let lE:=M.R O;let qA:=z.E lE;apply(Tt,_,Á,bw.of EL,Á,_,_,Á,_,_,Á,Á,?_);let EM:=qA.l.sub HC;apply(_,Á,.inl ⟨Á,_,aa.of (O _ _ J)⟩,_,Á,aY (EM.ga) T.cG T.vM (vL g) ⟨g.l,_,Á,.inl (aa.of EM.fl),(g.flags.L:Int),by simp,by simp_all,by lia,λD2 ck=>?_⟩);rw[BU];apply CZ (lo:=0) (n:=g.flags.L) (fe H3 D2 λq=>((2^(8*i+q):Nat):Int)) Çk (λq H' hq f=>?_) þ
  .rw[R3];apply(Á,eJ ⟨_,Á,_,_,Á,Á,.inl ⟨by decide,by decide⟩,_,Á,_,_,Á,Á,_,_,Á,Á,⟨by lia,by lia,by decide⟩,?_⟩);apply fe.step ck Î f Ĥ ?_;rw[show(8*((i:Nat):Int)+((q:Nat):Int)).toNat=8*i+q by rfl];simp
  .let hd:=f.2;let e:(List.range g.flags.L).M (λq=>((2^(8*i+q):Nat):Int))=nv (zG i g.flags.L):=by
    ext nv zG;rw[cj];rfl
   rw[e] at hd;let eg:(p.ao.M λg=>g.flags.L)[i]? =Α g.flags.L:=by rw[bz,W];rfl
   let iO:(fQ ((p.ao.M λg=>g.flags.L).take i)).L<=10000:=by
    rw[Qo];apply gn (IV λx hx=>?_) ?_
    .let(g',IW,rfl):=bG.mp (zX hx);exact z.flags g' IW
    .rw[iR,ak];grind
   apply(D,D2,_,_,Á,Á,f.1 _ _ (O _ _ J),hd,?_,_,_,Á,fc (lE.R f.1) U,?_)
   .rw[dw,gO,dw,gO];simp only[zG,ak,ik];exact tm (f7 Î)
   .rw[aq,take_snoc eg,Z3,iR,ak,RV Î];simp[nv]
 .rintro σ H2 ⟨Y,Z,rfl,M,J⟩;rw[ak,<-ak (f:=λg:cz=>g.flags.L),i4] at J;exact(_,Á,k H2 D ⟨M,U,J⟩)
end
def uT(ms:aI)(classes:LI)(side:Nat)(fl:LN):List Face:=fl.M λf=>jT classes side Ϝ
structure EN(CR:Addr)(n:Nat)(H:Hp)(r:eK):Prop where
 l:aU H Æm
 lt:∀h∈r.hs.m,h.L<=100/\∀f∈h,f<n
 c6:r.hs.ls.L<=100
def Qp{CR:Addr}{H:Hp}{r:eK}(h:aU H Æm):H r.a=Α (.ins CR r.dx (BA r)):=h (r.a,_) (by simp[qo])
def Z5{CR:Addr}{H:Hp}{r:eK}(h:aU H Æm):aU H (e9 r.hs):=λx j=>h x (by ext qo;exact aK _ (rG _ (wD _ j)))
def Z6{CR:Addr}{H:Hp}{r:eK}(h:aU H Æm):H r.sd.a=Α (.lst (iv (nv r.sd.ns))):=h (r.sd.a,_) (by simp[qo,lsN])
def apg{CR:Addr}{H:Hp}{r:eK}(h:aU H Æm):H r.nums.a=Α (.lst (iv (nv r.nums.ns))):=h (r.nums.a,_) (by simp[qo,lsN])
def EN.same{CR:Addr}{n:Nat}{H H':Hp}{r:eK}(h:EN CR n H r)(s:ai H H'):EN CR n H' r:=⟨h.l.E s,h.lt,h.c6⟩
def aph(r:eK):(BA r).Q ("hoists":Str)=Α (.ref r.hs.a):=(fm É).R gK
def api(r:eK):(BA r).Q ("sides":Str)=Α (.ref r.sd.a):=(fm É).R ((fm É).R gK)
def apj(r:eK):(BA r).Q ("entries":Str)=Α (.ref r.nums.a):=gK
structure apk(H H':Hp)(l:Addr)(fs:List rE):Prop where
 at_:H' l=Α (.lst (fs.M λt=>V.ref t.a))
 n:H l=Β
 lies:∀t∈fs,aU H' (wt t)
 nw:∀t∈fs,i9 H (wt t)
inductive Z7(C:Cs)(CK CR:Addr)(vs:ay)(H:Hp)(Q:VK)(E':XK):Prop
 |mk (pk:Addr) (ks:List au) (p:dZ) (r:eK) (side:Nat) (_:vs=[.ref pk,.ref p.a,.ref r.a,.int (side:Nat)]) (_:Ń ks) (_:rj C H p) (_:EN CR ks.L H r) (_:∀H' l fs,ai H H'->apk H H' l fs->fs.M rE.m=uT Ì p.classes side r.hs.m.flatten->Q Âa H')
section
variable{P:Pg}{w:Wd}{K:FR}{mg:MG}{base:Heap}{CA CR CK:Addr}{C:Cs}
def zH:bC ["kinds","plate","reading","side","seen","hoist","flag"] ["kinds","plate","reading","side"] (ba ME):=cg
inductive FsI(C:Cs)(pk:Addr)(ms:aI)(p:dZ)(r:eK)(side:Nat)(D:Addr)(H:Hp)(i:Nat)(σ:L2.St)(H':Hp):Prop
 |mk (v:Option V) (sg:List eB) (_:σ=[some Ær,some ϭ,some (.ref r.a),some (.int (side:Nat)),some ϔ,v,none]) (_:ai H H') (_:H' D=Α (.lst (sg.M λs=>V.ref s.a))) (_:∀s∈sg,Lies H' (gV C s)) (_:∀s∈sg,∀x∈gV C s,H x.1=Β/\x.1≠D) (_:sg.M eB.m=uT ms p.classes side (r.hs.m.take i).flatten)
def apm{f:Addr}{fd:FD}(F:br K "flags_seen" "flags_seen" ME f fd)(T:lx K C)(TR:jt K CR ["entries","hoists","sides"])(dS:Ç 3 "sighting_of" ["kind","classes","side"] År):Ë 4 f fd ["kinds","plate","reading","side"] (Z7 C CK CR):=by
 refine F.ok zH Â;let(pk,ks,p,r,side,rfl,hk,hp,W,k):=h;refine⟨_,aB (cf 4 zH.nd Ĩ)
  (aB (Į (dX Àt) (cZ 5 zH.nd) (aA (pI (ó ę (ae
   (eA (own:=[("flag",6)]) (te:=g8 År [] E0 (a9 (bQ Ũ Ų (ax 6)) (a9 (fj K ž "classes") Âk))) rfl zH.nd (dX Ãd) Ê
    (λ_ _ _ _ _=>cZ 6 zH.nd) Ò (λ_ _ _ _ _=>bx dS (ae (cJ c9 Ø Ϫ Ö) (ae Ň ĳ)))) af)))))
  (aA (aV (eA (own:=[("flag",6)]) (te:=vt (a9 (fj K (ax 6) "shape") (a9 (fj K (ax 6) "cells") dq))) rfl zH.nd (dX ę) Ê
   (λ_ _ _ _ _=>cZ 6 zH.nd) Ò (λ_ _ _ _ _=>rX (ae (aX Ϫ rfl) (ae (aX Ϫ rfl) af))))))),?_⟩
 apply(di _,λD hD=>?_);let s1:ai H (upd H D ã):=aG hD;let qV:=W.E s1;let Z8:=Z5 W.l;refine⟨_,Á,aY (Qp qV.l) TR.1 (TR.2 _ Ä) (aph r) ⟨r.hs.a,Á,⟨_,aa.of (ju (Z5 qV.l))⟩,pJ (K:=K) (a:=r.hs.a) (xs:=r.hs.ls.M λx=>V.ref x.a) (FsI C pk Ì p r side D H)
  ⟨none,[],rfl,s1,aq,by simp,by simp,rfl⟩ (λi σ H' _ h=>(by let(_,_,_,s2):=h;exact aa.of (s2 _ _ (ju Z8)))) ?_ ?_⟩⟩
 .rintro i v σ H2 hi ⟨v5,sg,rfl,s2,Y,pP,IX,fq⟩;let(ho,Qq,rfl):=gQ hi;let IY:=bj Qq;let dm:=(bo.mp Qq).1;let Z9:r.hs.m[i]? =Α ho.ns:=by ext cA.m;rw[bz,Qq];rfl
  let(hol,hof):=W.lt _ (bj Z9);let r6:=s2 _ _ (nc Z8 IY);let uh:=hk.E s2;let qz:=hp.E s2;refine⟨_,Á,.inl ⟨Á,_,aa.of Y⟩,_,Á,ho.a,Á,⟨_,aa.of r6⟩,λD2 ck=>fV (K:=K) (a:=ho.a) (xs:=iv (nv ho.ns)) (jS (gV C) eB.a (λj b=>∀q,ho.ns[j]? =Α q->b.m=jT p.classes side ((ks.M au.m).D q eW)) H2 D2) Ác (λj H' _ f=>aa.of (f.E _ _ r6)) Äm Àx⟩
  .let(q,hq,rfl):=jr hj;let oC:=(bo.mp hq).1;let uj:=hof q (bj hq);let U:ks[q]? =Α ks[q]:=cI uj;let Ic:=uh.E f.E;let qA:=qz.E f.E;apply(Á,eJ ⟨_,Á,_,Á,pk,_,_,.ref ks[q].a,Á,Á,aa.of Ic.a,fZ (by rw[bz,U];rfl),_,Á,aY qA.l.pl T.cP T.DF (GW p) ⟨_,Á,ks[q],p.cl,p.classes,side,Á,nY Ic.l (bj U),hk.look _ (bj U),aa.of qA.l.cl,hp.xK,λH4 sg' s4 c1 c2 ls fr=>?_⟩⟩);apply jS.step ck Î f s4 sg' (λq' j9=>?_) ls fr;rw[hq] at j9;rw[<-aQ j9,ij,bz,U];ext eB.m jT;rw[c1,c2];rfl
  .let(bs,iO,s3,iK,r3,l3,f3):=jS.end f;rw[dw,gO] at iO;let eb:bs.M eB.m=uT Ì p.classes side ho.ns:=Bb iO λj b q h1 h2=>r3 j b h1 q h2;let bZ:sg.L<=10000:=by
    let:=b9 List.length fq;rw[ak] at this;delta uT at this;rw[ak,Sd] at this;rw[this];apply gn (IV λx hx=>?_) ?_
    .let(h',EO,rfl):=bG.mp hx;exact(W.lt h' (zX EO)).1
    .let:=W.c6;rw[ak,iR,ie];grind
   let hDb:∀b∈bs,∀x∈gV C b,H x.1=Β/\x.1≠D:=λb J x hx=>⟨s2.free (f3 b J x hx),λz=>by
    let:=f3 b J x hx;rw[z,Y] at this;cases this⟩
   apply(D,D2,_,_,Á,Á,s3 _ _ Y,iK,?_,_,sg++bs,Á,fc ğ hD,?_,?_,?_,?_)
   .rw[ak,ak];exact tm (f7 Î)
   .rw[aq,bH]
   .intro b J x hx;rcases fu.mp J with J|J
    .rw[az (IX b J x hx).2];exact s3 _ _ (pP b J x hx)
    .rw[az (hDb b J x hx).2];exact l3 b J x hx
   .intro b J;rcases fu.mp J with J|J
    .exact IX b J
    .exact hDb b J
   .rw[bH,fq,eb,take_snoc Z9];ext uT;simp
 .rintro σ H2 ⟨v5,sg,rfl,s2,Y,pP,IX,fq⟩;rw[ak,<-ie,i4] at fq;refine⟨_,Á,D,Á,⟨_,aa.of Y⟩,λD2 ck=>fV (K:=K) (a:=D) (xs:=sg.M λs=>V.ref s.a) (jS (λt:rE=>[(t.a,.tup [.int ((t.sh:Nat):Int),.ref t.c])]) rE.a (λj t=>∀s,sg[j]? =Α s->t.c=s.l/\t.sh=s.shape/\t.cells=s.cells) H2 D2) Ác (λj H' _ f=>aa.of (f.E _ _ Y)) Äm Àx⟩
  .let(M,Z,rfl):=gQ hj;let oC:=(bo.mp Z).1;let qM:=(pP M (bj Z)).E f.E;let bZ:sg.L<=10000:=by
    let:=b9 List.length fq;rw[ak] at this;delta uT at this;rw[ak,Sd] at this;rw[this];apply gn (IV λx hx=>?_) ?_
    .let(h',EO,rfl):=bG.mp hx;exact(W.lt h' EO).1
    .let:=W.c6;rw[ak,ie];lia
   apply(Á,eJ ⟨_,Á,aY qM.sa T.cS T.yU (GX M) ⟨_,Á,aY qM.sa T.cS T.DE (DC M) ⟨(by show 2<=sizeLine;decide),λt O=>?_⟩⟩⟩);apply jS.step ck Î f (aG O) ⟨t,M.l,M.shape,M.cells⟩ (λs' mV=>?_) ϩ ϩ
   .rw[Z] at mV;cases mV;exact(Á,Á,Á)
   .rw[iS.mp hx];exact aq
   .rw[iS.mp hx];exact O
  .let(ts,Bk,s3,iK,r3,l3,f3):=jS.end f;rw[ak] at Bk;let jY:∀t∈ts,∃s∈sg,t.c=s.l/\t.sh=s.shape/\t.cells=s.cells:=λt O=>by
    let(j,hj,rfl):=nr O;let U:sg[j]? =Α (sg[j]' Î):=cI (by omega);exact(_,bj U,r3 j _ (cI hj) _ U)
   apply k H3 D2 ts ğ ⟨iK,s2.free ck,λt O x hx=>?_,λt O x hx=>?_⟩ ?_
   .let(M,Z,c1,c2,c3):=jY t O;simp only[wt,a8,kZ,k7] at hx;rcases hx with rfl|rfl
    .exact l3 t O _ (iS.mpr Á)
    .show H3 t.c=Α (.lst (iv t.cells));rw[c1,c3];exact s3 _ _ (pP M Z).sl
   .let(M,Z,c1,c2,c3):=jY t O;simp only[wt,a8,kZ,k7] at hx;rcases hx with rfl|rfl
    .exact s2.free (f3 t O _ (iS.mpr Á))
    .show H t.c=Β;rw[c1];exact(IX M Z (M.l,.lst (iv M.cells)) (by simp[gV])).1
   .rw[<-fq];apply Bb Bk λj t s h1 h2=>?_;let(_,c2,c3):=r3 j t h1 s h2;ext rE.m eB.m;rw[c2,c3]
end
abbrev wu:=LN×bf×LN
abbrev sY:=LN×List Face
def sZ(ms:aI)(classes:LI)(r:wu)(j:LN):List sY:=j.M λd=>(r.1,uT ms classes d r.2.1.flatten)
def jZ(ms:aI)(classes:LI)(rs:List wu):List sY:=rs.flatMap λr=>sZ ms classes r r.2.2
def Qr(D:Addr)(p:i3):Prop:=p.a≠D/\p.en.a≠D/\p.fl≠D/\∀t∈p.fs,∀x∈wt t,x.1≠D
def rF.upd{CA D:Addr}{H:Hp}{p:i3}{o:HO}(h:rF CA H p)(n:Qr D p):rF CA Èk p:=⟨by rw[az n.1];exact h.a,by rw[az n.2.1];exact h.en,by rw[az n.2.2.1];exact h.fl,λt j=>(h.fs t j).upd (n.2.2.2 t j)⟩
inductive aab(C:Cs)(CK CR CA:Addr)(vs:ay)(H:Hp)(Q:VK)(E':XK):Prop
 |mk (pk:Addr) (ks:List au) (p:dZ) (q:Addr) (rs:List eK) (_:vs=[.ref pk,.ref p.a,.ref q]) (_:Ń ks) (_:rj C H p) (_:H q=Α (.lst (rs.M λr=>V.ref r.a))) (_:∀r∈rs,EN CR ks.L H r) (_:rs.L<=1000) (_:∀r∈rs,r.sd.ns.L<=100) (_:∀H' l(fg:List i3),ai H H'->H l=Β->H' l=Α (.lst (fg.M λa=>V.ref a.a))->(∀a∈fg,rF CA H' a)->fg.M i3.m=jZ Ì p.classes ϒ->Q Âa H')
section
variable{P:Pg}{w:Wd}{K:FR}{mg:MG}{base:Heap}{CA CR CK:Addr}{C:Cs}
def IZ:bC ["kinds","plate","readings","appearances","reading","side"] ["kinds","plate","readings"] (ba MD):=cg
inductive ApI(CA pk:Addr)(p:dZ)(q D:Addr)(H:Hp)(v4:Option V)(l:List sY)(σ:L2.St)(H':Hp):Prop
 |mk (v5:Option V) (fg:List i3) (_:σ=[some Ær,some ϭ,some Åt,some ϔ,v4,v5]) (_:ai H H') (_:H' D=Α (.lst (fg.M λa=>V.ref a.a))) (_:∀a∈fg,rF CA H' a/\Qr D a) (_:fg.M i3.m=l)
def apq{f:Addr}{fd:FD}(F:br K "appearances_of" "appearances_of" MD f fd)(TR:jt K CR ["entries","hoists","sides"])(dA:Ā "Appearance" CA ["entries","flags"])(dF:Ç 4 "flags_seen" ["kinds","plate","reading","side"] (Z7 C CK CR)):Ë 5 f fd ["kinds","plate","readings"] (aab C CK CR CA):=by
 refine F.ok IZ Â;let(pk,ks,p,q,rs,rfl,hk,hp,hq,xR,Ec,pP,k):=h;refine⟨_,aB (cf 3 IZ.nd Ĩ)
  (aB (Į (dX å) (cZ 4 IZ.nd) (aA (Į (dX (aX ę rfl)) (cZ 5 IZ.nd) (aA (pI (Ü ö (ae
   (pV dA hr (ae (aX ę rfl) (ae (bx dF (ae Ø (ae á (ae ę ŀ)))) af))) af)))))))
  (aA (aV ö))),?_⟩
 apply(di _,λD hD=>?_);let s1:ai H (upd H D ã):=aG hD;refine⟨_,Á,q,Á,⟨_,aa.of (s1 _ _ hq)⟩,pJ (K:=K) (a:=q) (xs:=rs.M λr=>V.ref r.a) (λi σ H'=>∃v4,ApI CA pk p q D H v4 (jZ Ì p.classes ((rs.M eK.m).take i)) σ H')
  ⟨none,none,[],rfl,s1,aq,by simp,rfl⟩ (λi σ H' _ h=>(by let(_,_,_,_,W):=h;exact aa.of (W _ _ hq))) ?_ ?_⟩
 .rintro i v σ H2 hi ⟨v4,v5,fg,rfl,W,df,x3,hm⟩;let(r,oK,rfl):=gQ hi;let nZ:=bj oK;let dm:=(bo.mp oK).1;let nQ:=xR r nZ;let Z:=nQ.E W;let em:ϒ[i]? =Α r.m:=by rw[bz,oK];rfl
  let t7:(jZ Ì p.classes ((rs.M eK.m).take i)).L<=100000:=by
   ext jZ;rw[auj];apply gn (IV λx U=>?_) ?_
   .let(m,AH,rfl):=bG.mp U;let(r',apr,rfl):=bG.mp (zX AH);ext sZ;rw[ak];exact pP r' apr
   .rw[ak,iR,ak];grind
  let fin:jZ Ì p.classes ((rs.M eK.m).take (i+1))=jZ Ì p.classes ((rs.M eK.m).take i)++sZ Ì p.classes r.m r.m.2.2:=by
   rw[take_snoc em];ext jZ;rw[wH];simp
  rw[fin];generalize jZ Ì p.classes ((rs.M eK.m).take i)=L0 at hm t7;let avG:=pP r nZ;let apt:=Z6 Z.l;refine⟨_,Á,aY (Qp Z.l) TR.1 (TR.2 _ Ä) (api r) ⟨r.sd.a,Á,⟨_,aa.of apt⟩,pJ (K:=K) (a:=r.sd.a) (xs:=iv (nv r.sd.ns)) (λj σ H'=>ApI CA pk p q D H (some (.ref r.a)) (L0++sZ Ì p.classes r.m (r.sd.ns.take j)) σ H')
   ⟨v5,fg,rfl,W,df,x3,by rw[hm];simp[sZ]⟩ (λj σ H' _ h=>(by let(_,_,_,M):=h;exact aa.of (M _ _ (Z6 nQ.l)))) ?_ ?_⟩⟩
  .rintro j v σ H3 hj ⟨w5,Ja,rfl,M,O,Y,yP⟩;let(d,hd,rfl):=jr hj;let oC:=(bo.mp hd).1;let aae:=nQ.E M;apply(_,Á,.inl ⟨Á,_,aa.of O⟩,_,Á,aY (Qp aae.l) TR.1 (TR.2 _ Ä) (apj r) ⟨_,Á,_,Á,_,Á,_,Á,pk,ks,p,r,d,Á,hk.E M,hp.E M,aae,λH4 l fs s4 tf em4=>?_⟩);intro x dx U gU aL;refine⟨x,dx,[.ref r.nums.a,.ref l],Á,Á,aq,λH5 e5 e2=>Ţ⟩;let s5:ai H4 H5:=λb o eb=>e2 b o (by rw[az (eQ eb U),az (eQ eb gU)];exact eb) (eQ eb U);let Qs:=s4.R s5;let uk:=Qs _ _ O;let xD:x≠D:=λz=>by rw[z,s4 _ _ O] at U;cases U
   let yJ:H r.nums.a=Α (.lst (iv (nv r.nums.ns))):=apg nQ.l;let nD:Qr D ⟨x,dx,r.nums,l,fs⟩:=by
    apply(xD,λz=>?_,λz=>?_,λt ht y hy z=>?_)
    .let z:r.nums.a=D:=z;rw[z,hD] at yJ;cases yJ
    .let z:l=D:=z;let:=tf.n;rw[z,O] at this;cases this
    .let:=tf.nw t ht y hy;rw[z,O] at this;cases this
   let ok5:rF CA H5 ⟨x,dx,r.nums,l,fs⟩:=⟨e5,s5 _ _ (s4 _ _ (M _ _ yJ)),s5 _ _ tf.at_,λt ht=>(tf.lies t ht).E s5⟩;let bZ:Ja.L<=200000:=by
    let h1:=b9 List.length yP;rw[ak,j4] at h1;delta sZ at h1;rw[ak,iR] at h1;grind
   apply(D,_,_,Á,Á,uk,by rw[ak];exact f7 Î,_,Ja++[⟨x,dx,r.nums,l,fs⟩],rfl,fc (M.R Qs) hD,?_,λa J=>?_,?_)
   .rw[aq,bH];rfl
   .rcases fu.mp J with J|J
    .exact(((Y a J).1.same Qs).upd (Y a J).2,(Y a J).2)
    .rw[iS.mp J];exact(ok5.upd nD,nD)
   .rw[bH,yP,take_snoc hd];ext sZ;rw[bH,<-rJ];show _++[(r.nums.ns,fs.M rE.m)]=_;rw[em4];rfl
  .rintro σ H3 ⟨w5,Ja,rfl,M,O,Y,yP⟩;rw[dw,gO,i4] at yP;exact(_,w5,Ja,Á,M,O,Y,yP)
 .rintro σ H2 ⟨v4,v5,fg,rfl,W,df,x3,hm⟩;rw[ak,<-ak (f:=eK.m),i4] at hm;exact(_,Á,k H2 D fg W hD df (λa J=>(x3 a J).1) hm)
end
def lU(f g:List Face)(bits:LN):Nat:=(((List.range bits.L).J λi=>!decide (f[i]? =g[i]?)).M λi=>bits.D i 0).sum
theorem apw(l:LN):(l.M λn=>((n:Nat):Int)).sum=((l.sum:Nat):Int):=by
 induction l with
 |nil=>rfl
 |cons x l j=>rw[a7,gq,j,gq];rfl
def apx{a b:LN}:nv a=nv b↔a=b:=by
 apply(λh=>?_,λh=>by rw[h]);let h2:=b9 (List.map Int.toNat) h;delta nv at h2;simpa [cj,abH] using h2
def apy(f g:List Face)(bits:LN):Qm f g bits=((lU f g bits:Nat):Int):=by
 ext Qm lU p7;rw[<-apw,cj];rfl
abbrev dE(z:Nat):Key×V:=(Sum.inl ((z:Nat):Int),.bl true)
def zJ(ks:LN)(z:Nat):LN:=if z∈ks then ks else ks++[z]
def apz(ks:LN)(z:Nat):putK (ks.M dE) (Sum.inl ((z:Nat):Int)) (.bl true)=(zJ ks z).M dE:=by
 let j:((ks.M dE).any λkv=>decide (kv.1=(Sum.inl ((z:Nat):Int):Key)))=true↔z∈ks:=by
  rw[tu];apply(λ⟨p,J,e⟩=>?_,λh=>⟨dE z,zZ h,by simp⟩);let(y,F,rfl):=bG.mp J;let e:=mO e;let e:((y:Nat):Int)=z:=À e
  rw[show z=y by lia];exact F
 ext putK zJ;by_cases h:z∈ks
 .rw[ah (j.mpr h),ah h,cj];apply iT λy F=>?_;show(if (Sum.inl ((y:Nat):Int):Key)=Sum.inl ((z:Nat):Int) then _ else _)=_;split <;> rfl
 .rw[ag (λq=>h (j.mp q)),ag h,bH];rfl
def apA{ks:LN}{z y:Nat}:y∈zJ ks z↔y∈ks\/y=z:=by
 ext zJ;split
 .exact(.inl,λh=>h.elim id λe=>by rw[e];assumption)
 .simp
def apB(ks:LN)(z:Nat):(zJ ks z).L<=ks.L+1:=by
 ext zJ;split
 .symm
 .simp
def zK(ms:List sY)(bits:LN)(i j z:Nat):Prop:=∃a b x y,ms[a]? =Α x/\ms[b]? =Α y/\x.1≠y.1/\z=lU x.2 y.2 bits/\b<a/\(a<i\/(a=i/\b<j))
def apC{ms:List sY}{bits:LN}{i z:Nat}:zK ms bits i i z↔zK ms bits (i+1) 0 z:=by
 refine⟨λ⟨a,b,x,y,j,h2,q,F,J,M⟩=>⟨a,b,x,y,j,h2,q,F,J,by lia⟩,λ⟨a,b,x,y,j,h2,q,F,J,M⟩=>⟨a,b,x,y,j,h2,q,F,J,by grind⟩⟩
def aaf{ms:List sY}{bits:LN}{i j z:Nat}{x y:sY}(U:ms[i]? =Α x)(W:ms[j]? =Α y)(hj:j<i):zK ms bits i (j+1) z↔zK ms bits i j z\/(x.1≠y.1/\z=lU x.2 y.2 bits):=by
 apply(λ⟨a,b,O,Y,J,h2,q,F,M,Z⟩=>?_,λh=>?_)
 .by_cases e:a=i/\b=j
  .let(rfl,rfl):=e;rw[U] at J;rw[W] at h2;cases J;cases h2;exact .inr ⟨q,F⟩
  .exact .inl ⟨a,b,O,Y,J,h2,q,F,M,by grind⟩
 .rcases h with ⟨a,b,O,Y,J,h2,q,F,M,Z⟩|⟨q,F⟩
  .exact(a,b,O,Y,J,h2,q,F,M,by grind)
  .exact(i,j,x,y,U,W,q,F,hj,.inr ⟨Á,by simp_all⟩)
inductive aag(CA:Addr)(vs:ay)(H:Hp)(Q:VK)(E':XK):Prop
 |mk (l pb:Addr) (fg:List i3) (bits:LN) (_:vs=[.ref l,.ref pb]) (_:H l=Α (.lst (fg.M λa=>V.ref a.a))) (_:∀a∈fg,rF CA H a) (_:H pb=Α Ãu) (_:fg.L<=500) (_:bits.L<=1000) (_:∀a∈fg,bits.L<=a.fs.L) (_:∀H' r ds,Ů r (.lst (iv (nv ds)))->(∀z,z∈ds↔zK Áu bits fg.L 0 z)->Q ϣ H')
section
variable{P:Pg}{w:Wd}{K:FR}{mg:MG}{base:Heap}{CA CR CK:Addr}{C:Cs}
def Jb:bC ["appearances","bits","differences","number","one","other"] ["appearances","bits"] (ba MF):=cg
inductive DfI(l pb d:Addr)(ms:List sY)(bits:LN)(H:Hp)(i j n:Nat)(v3 v4:Option V)(σ:L2.St)(H':Hp):Prop
 |mk (v5:Option V) (ks:LN) (_:σ=[some Âa,some (.ref pb),some Áf,v3,v4,v5]) (_:ai H H') (_:H' d=Α (.dK (ks.M dE))) (_:∀z,z∈ks↔zK ms bits i j z) (_:ks.L<=n)
def apD{f:Addr}{fd:FD}(F:br K "differences_among" "differences_among" MF f fd)(T:jt K CA ["entries","flags"])(tE:mg "enumerate"=Β)(zl:mg "list"=Β)(dD:Ç 1 "difference" ["one","other","bits"] (Z2 CA)):Ë 2 f fd ["appearances","bits"] (aag CA):=by
 refine F.ok Jb Â;let(l,pb,fg,bits,rfl,hl,x3,hb,t7,iO,fY,k):=h;refine⟨_,aB (cf 2 Jb.nd C6)
  (aB (Į Ás (iA 3 4 Jb.nd) (aA (Į (dX (wW wY Ø wU (wV ö))) (cZ 5 Jb.nd)
   (aA (dj (cw (Lh hr.units) (aX ę rfl) (aX Ãd rfl) (bU _)) (aA (F5 Èj å (bx dD (ae ę (ae Ãd Ĺ))) vo rfl)) dQ)))))
  (aA (aV (vx (ag1 rfl) Ð zl HL ł)))),?_⟩
 intro d hd;let s1:ai H (upd H d Ϥ):=aG hd;refine⟨_,Á,l,_,Á,aa.of (s1 _ _ hl),Le (K:=K) (a:=l) (xs:=fg.M λa=>V.ref a.a) (λi σ H'=>∃v3 v4,DfI l pb d Áu bits H i 0 (i*500) v3 v4 σ H')
  ⟨none,none,none,[],rfl,s1,aq,λz=>⟨λh=>(by cases h),λ⟨_,_,_,_,_,_,_,_,_,h⟩=>Å⟩,di _⟩ (λi σ H' _ h=>(by let(_,_,_,_,_,M):=h;exact aa.of (M _ _ hl))) ?_ ?_⟩
 .rintro i x Tt σ H2 hi ⟨v3,v4,v5,ks,rfl,M,df,hz,Z⟩ hT;let(one,ho,rfl):=gQ hi;let dm:=(bo.mp ho).1;let IY:=bj ho;let em:Áu[i]? =Α one.m:=by rw[bz,ho];rfl
  let s3:ai H2 (Ū (.tup [.int (i:Nat),.ref one.a])):=aG hT;let EL:(Ū (.tup [.int (i:Nat),.ref one.a])) Tt=Α (.tup [.int (i:Nat),.ref one.a]):=aq;generalize upd H2 Tt (.tup [.int (i:Nat),.ref one.a])=H3 at s3 EL;apply(Tt,_,Á,bw.of EL,Á,_,_,Á,_,_,Á,Á,?_);let lE:=M.R s3;let A3:=lE _ _ hl;apply(_,Á,_,Á,_,Á,l,_,Á,aa.of A3,λc hc=>?_);rw[Of _ (by rw[ak];lia),<-abj];let s4:ai H3 (upd H3 c (.lst ((fg.take i).M λa=>V.ref a.a))):=aG hc;let Qt:(upd H3 c (.lst ((fg.take i).M λa=>V.ref a.a))) c=Α (.lst ((fg.take i).M λa=>V.ref a.a)):=aq;generalize upd H3 c (.lst ((fg.take i).M λa=>V.ref a.a))=H4 at s4 Qt;let mf:=lE.R s4;let hd4:=s4 _ _ (s3 _ _ df);let ny:c≠d:=λz=>by rw[z,s3 _ _ df] at hc;cases hc
  refine⟨c,Á,⟨_,aa.of Qt⟩,pJ (K:=K) (a:=c) (xs:=(fg.take i).M λa=>V.ref a.a) (λj σ H'=>DfI l pb d Áu bits H i j (i*500+j) (some (.int (i:Nat))) (some (.ref one.a)) σ H'/\H' c=Α (.lst ((fg.take i).M λa=>V.ref a.a)))
   ⟨⟨v5,ks,rfl,mf,hd4,hz,Z⟩,Qt⟩ (λj σ H' _ h=>aa.of h.2) ?_ ?_⟩
  .rintro j v σ H5 hj ⟨⟨w5,O,rfl,J,uk,x4,U⟩,Qu⟩;let(q,Qv,rfl):=gQ hj;let oC:=(bo.mp Qv).1;rw[iR] at oC;let r6:fg[j]? =Α q:=by rw[List.getElem?_take] at Qv;split at Qv <;> simp_all
   let W:=bj r6;let Y:Áu[j]? =Α q.m:=by rw[bz,r6];rfl
   let h1:=(x3 one IY).E J;let h2:=(x3 q W).E J;apply(_,Á,aY h1.a T.1 (T.2 _ Ä) (ZY one) ⟨_,Á,aY h2.a T.1 (T.2 _ Ä) (ZY q) ⟨one.en.a,q.en.a,nv one.en.ns,nv q.en.ns,Á,Á,aa.of h1.en,aa.of h2.en,_,Á,?_⟩⟩);let enq:decide (nv one.en.ns=nv q.en.ns)=decide (one.m.1=q.m.1):=by
    rw[JU];exact apx
   rw[enq];apply a0 (λhq=>?_) (λhq=>?_)
   .let aL:one.m.1≠q.m.1:=by simpa using hq
    apply(_,Á,_,Á,_,Á,_,Á,one,q,pb,bits,Á,h1,h2,J _ _ hb,iO,fY one IY,fY q W,λH6 s6=>?_);rw[apy];let hd6:=s6 _ _ uk;apply(d,_,Á,xf.k (k:=(Sum.inl ((lU one.m.2 q.m.2 bits:Nat):Int):Key)) hd6 (by rw[ak];exact f7 (by let:i*500<=500*500:=at5 _ Î;lia)),⟨_,zJ O (lU one.m.2 q.m.2 bits),Á,fc (J.R s6) hd,?_,λz=>?_,?_⟩,?_)
    .rw[aq,apz]
    .rw[apA,x4,aaf em Y Î];exact(λh=>h.imp id λe=>⟨aL,e⟩,λh=>h.imp id λe=>e.2)
    .let:=apB O (lU one.m.2 q.m.2 bits);lia
    .rw[az ny];exact s6 _ _ Qu
   .let he:one.m.1=q.m.1:=by simpa using hq
    apply(⟨_,O,Á,J,uk,λz=>?_,by lia⟩,Qu);rw[x4,aaf em Y (by omega)];exact(.inl,λh=>h.elim id λe=>absurd he e.1)
  .rintro σ H5 ⟨⟨w5,O,rfl,J,uk,x4,U⟩,Qu⟩;rw[ak,iR,RV Î] at x4 U;apply(_,_,w5,O,Á,J,uk,λz=>(x4 z).R apC,?_);rw[Nat.add_mul];lia
 .rintro σ H2 ⟨v3,v4,v5,ks,rfl,M,df,hz,Z⟩;rw[ak] at hz;apply(_,Á,d,_,Á,df,λr oK=>k _ r ks ⟨M.R (aG oK),M.free oK,?_⟩ hz);rw[aq,cj];simp[nv];exact λ_ _=>Á
end
def jy(p:eV):Bool:=p.ao.any λg=>g.above||g.below
def eF(p:eV):LN:=p.ao.M λg=>g.flags.L
def uU(F:List sY)(bits:LN)(c:Nat):Prop:=∀z,zK F bits F.L 0 z->c&&& z≠0
def x5(c:Nat):Nat×Nat:=(uS c,c)
structure ET(ms:aI)(p:eV)(rs:List wu):Prop where
 len:jy p=false->∀r∈rs,(fQ (eF p)).L<=r.2.1.flatten.L
 sd:∀r∈rs,r.2.2.L<=2
 hs:jy p=false->∀r∈rs,(∀h∈r.2.1,h.L<=100/\∀f∈h,f<ms.L)/\r.2.1.L<=100
 lt:∀c∈gi Âh,c<2^40
inductive aam(C:Cs)(CK CR CA C1 C2 C3 C4:Addr)(vs:ay)(H:Hp)(Q:VK)(E:XK):Prop
 |mk (pk:Addr) (ks:List au) (p:dZ) (q:Addr) (rs:List eK) (_:vs=[.ref pk,.ref p.a,.ref q]) (_:Ń ks) (_:rj C H p) (_:BB CR H q rs) (_:ET Ì p.m ϒ)
  (_:jy p.m=true->No E C1 H) (_:jy p.m=false->rs=[]->No E C2 H) (_:jy p.m=false->rs≠[]->(12<(fQ (eF p.m)).L\/64<rs.L)->No E C3 H)
  (_:jy p.m=false->rs≠[]->(fQ (eF p.m)).L<=12->rs.L<=64->(∀c∈gi Áv,¬uU Äe Áv c)->No E C4 H)
  (_:jy p.m=false->rs≠[]->(fQ (eF p.m)).L<=12->rs.L<=64->∀c∈gi Áv,uU Äe Áv c->(∀d∈gi Áv,uU Äe Áv d->mi (x5 c)<=mi (x5 d))->∀H' t,ai H H'->H' t=Α (.tup [.int ((uS c:Nat):Int),.int ((c:Nat):Int)])->Q (.ref t) H')
section
variable{P:Pg}{w:Wd}{K:FR}{mg:MG}{base:Heap}{CA CR CK C1 C2 C3 C4 N1 N2 N3 N4:Addr}{C:Cs}
def zL:bC ["kinds","plate","readings","glimpse","bits","differences","settling","choice"] ["kinds","plate","readings"] (ba MB):=cg
def apI{f:Addr}{fd:FD}(F:br K "fewest_flags" "fewest_flags" MB f fd)(X1:Ğ "CutOff" C1 N1)(X2:Ğ "NoReading" C2 N2)(X3:Ğ "TooMuchToAsk" C3 N3)(X4:Ğ "NeverSettled" C4 N4)(T:lx K C)(tA:mg "any"=Β)(tL:mg "len"=Β)(tM:mg "min"=Β)(cF:Cn mg "MOST_FLAGS_ASKED" (.int 12))(cR:Cn mg "MOST_READINGS_ASKED" (.int 64))(dB:Ç 1 "bits_of_flags" ["plate"] (Z4 C)) (dA:Ç 5 "appearances_of" ["kinds","plate","readings"] (aab C CK CR CA)) (dD:Ç 2 "differences_among" ["appearances","bits"] (aag CA)) (dC:Ç 1 "choices_of" ["bits"] ZX) (dS:Ç 1 "settles" ["choice","differences"] Qj) (dH:Ç 1 "how_many" ["choice"] Qi):
  aZ P w K mg base Ē 6 f fd ["kinds","plate","readings"] (aam C CK CR CA C1 C2 C3 C4):=by
 refine F.qL zL Â;let(pk,ks,p,q,rs,rfl,hk,Z,xR,ok,k1,k2,k3,k4,k5):=h;refine⟨_,aB (dj (jh (c8 (KL Á) Ð tA boot_any (ae (eA (own:=[("glimpse",3)]) (te:=FG (fj K Ŀ "above") (fj K Ŀ "below")) Á zL.nd (dX Åh) Ê
   (λ_ _ _ _ _=>cZ 3 zL.nd) Ò (λ_ _ _ _ _=>Kd Ãp (rS Ãp))) af))) (aA (i7 hr.hd X1.c (lr X1.c X1.lI X1.keep rfl X1.mC))) dQ)
  (aB (dj (cw ť å Ĩ (bU _)) (aA (i7 hr.hd X2.c (lr X2.c X2.lI X2.keep rfl X2.mC))) dQ)
  (aB (cf 4 zL.nd (bx dB Ĺ))
  (aB (dj (PW.pt (pw_or (cw rW (c8 gv Ð tL PySem.boot_len ŝ) (cu cF) (bU _)) (pw_or1 (cw rW ā (cu cR) (bU _))))) (aA (i7 hr.hd X3.c (lr X3.c X3.lI X3.keep rfl X3.mC))) dQ)
  (aB (cf 5 zL.nd (bx dD (ae (bx dA (ae Ø (ae á ł))) ŝ)))
  (aB (tQ (i:=6) (own:=[("choice",7)]) (tt:=mX (g8 Qj [] E0 (a9 Æj Åi))) (te:=vt (a9 (g8 Qi [] E0 (a9 Æj dq)) (a9 Æj dq))) rfl zL.nd rfl rfl Ð (dX (bx dC ŝ)) Ê
   (λ_ _ _ _ _=>cZ 7 zL.nd) (λ_ _ _ _ _=>oE (jh (bx dS (ae Èe ŀ)))) (λ_ _ _ _ _=>rX (ae (bx dH Âu) Âu)))
  (aB (dj (cw ť Ϫ Ĩ (bU _)) (aA (i7 hr.hd X4.c (lr X4.c X4.lI X4.keep rfl X4.mC))) dQ)
  (aA (aV (c8 (ag7 rfl Èj) Ð tM O2 (ae Ϫ af)))))))))),?_⟩
 let Yz:=Z.c6;apply(_,Á,aY Z.l.pl T.cP T.m8 Äx ⟨p.gl,Á,⟨_,aa.of Z.l.gl⟩,λD hD=>fV (K:=K) (a:=p.gl) (xs:=p.ao.M λg=>V.ref g.a) (cy H D λi y ns=>ns=[]/\∀g,p.ao[i]? =Α g->y=.bl (g.above||g.below)) Ď (λi H' _ f=>aa.of (f.E _ _ Z.l.gl)) ą (λH1 f=>?_)⟩)
 .let(g,hg,rfl):=gQ hi;let dm:=(bo.mp hg).1;let EM:=(Z.l.sub (bj hg)).E f.E;apply(Á,eJ (Lk g.above g.below (λK q=>⟨_,Á,aY EM.ga T.cG T.Np (Nm g) q⟩) (λ_ K q=>⟨_,Á,aY EM.ga T.cG T.Nq (Nn g) q⟩) ?_));apply f.step hD Î Ĥ ⟨Á,λg' IW=>?_⟩ aU.nil Ä;rw[hg] at IW;cases IW;rfl
 let(ys,s1,fW,eZ,fl):=f.end;rw[ak] at eZ;let ey:ys=(p.ao.M λg=>g.above||g.below).M V.bl:=by
  rw[cj];apply ug eZ λi y g j h2=>?_;let(ns,(_,e),_):=fl i y j;exact e g h2
 subst ey;apply(D,_,Á,aa.of fW,?_);let ec:(p.ao.M λg=>g.above||g.below).any id=jy p.m:=by
  ext jy dZ.m;simp[JF,cz.m,abH]
 refine Ę;rw[ec];refine a0 (λhc=>gc ((k1 hc).go s1)) Ï;let hc:jy p.m=false:=À hc
 let DK:=s1 _ _ xR.1;apply(_,Á,di _,λz hz=>⟨q,z,_,Á,Á,aa.of ((aG hz) _ _ DK),aa.of aq,_,Á,a0 (λM=>?_) (λM=>?_)⟩)
 .let M:rs=[]:=by
   cases rs with
   |nil=>rfl
   |cons a b=>simp at M
  exact gc ((k2 hc M).go (s1.R (aG hz)))
 let M:rs≠[]:=λe=>by rw[e] at M;simp at M
 let s2:=s1.R (aG (o:=.lst []) hz);generalize upd H1 z ã=H2 at s2;let el:(p.ao.M λg=>g.flags.L)=eF p.m:=by
  ext eF dZ.m;simp[cj,cz.m,abH]
 apply(_,Á,p,Á,Z.E s2,λH3 pb n3=>?_);rw[el] at n3;let s3:=s2.R n3.1;let k3:=k3 hc M;let k4:=k4 hc M;let k5:=k5 hc M;let okl:=ok.len hc;let Qw:=ok.lt;generalize fQ (eF p.m)=bits at n3 k3 k4 k5 okl Qw;let uE:=s3 _ _ xR.1;let eb:(iv (nv bits)).L=bits.L:=by rw[dw,gO]
 let er:(rs.M λr=>V.ref r.a).L=rs.L:=ak ..;apply(_,Á,pb,_,Á,.inl (aa.of n3.2.2),_,_,Á,Á,_,Á,a0 (λj=>lp (gc ((k3 (.inl ?_)).go s3))) (λj=>⟨_,Á,q,_,Á,.inl (aa.of uE),_,_,Á,Á,_,Á,a0 (λh2=>gc ((k3 (.inr ?_)).go s3)) Àw⟩))
 .let:=mO j;rw[eb] at this;omega
 .let:=mO h2;rw[er] at this;omega
 obtain⟨x6,BK⟩:bits.L<=12/\rs.L<=64:=by
  rw[lY,eb] at j;rw[lY,er] at h2;lia
 let k4:=k4 x6 BK;let k5:=k5 x6 BK;let nZ:∀r∈rs,r.m∈rs.M eK.m:=λr hr=>zZ hr;apply(_,Á,_,Á,_,Á,pk,ks,p,q,rs,Á,hk.E s3,Z.E s3,uE,λr hr=>⟨(xR.2 r hr).E s3,λh hh=>?_,?_⟩,by lia,λr hr=>?_,λH4 l fg s4 nl DH x3 em=>?_)
 .let:=(ok.hs hc r.m (nZ r hr)).1 h hh;rw[ak] at this;exact this
 .let:=(ok.hs hc r.m (nZ r hr)).2;rw[<-ie];exact this
 .let:=ok.sd r.m (nZ r hr);exact gn this Ñ
 rw[<-em] at k4 k5;let t7:fg.L<=500:=by
  let j:=b9 List.length em;rw[ak] at j;rw[j];ext jZ;rw[auj];let h2:∀l:List wu,(∀r∈l,r.2.2.L<=2)->(l.M λr=>(sZ Ì p.classes r r.2.2).L).sum<=2*l.L:=by
   intro l;induction l with
   |nil=>simp
   |cons x l ih=>
    intro h;let i1:=ih λy hy=>h y (aK _ hy);let i2:=h x eO;rw[a7,gq,dg];delta sZ at i1⊢;rw[ak];grind
  let h3:=h2 ϒ ok.sd;rw[ak] at h3;grind
 let mf:=s3.R s4;let hb4:=s4 _ _ n3.2.2;apply(_,Á,l,pb,fg,bits,Á,DH,x3,hb4,t7,by lia,λa ha=>?_,λH5 pd ds n5 x4=>?_)
 .let j:a.m∈jZ Ì p.classes ϒ:=by rw[<-em];exact zZ ha
  delta jZ sZ at j;let(r,hr,h2):=jg.mp j;let(d,_,h3):=bG.mp h2;let h4:=b9 (λx:sY=>x.2.L) h3;let h5:=okl r hr;let h6:(uT Ì p.classes d r.2.1.flatten).L=a.fs.L:=by
   let:a.m.2.L=a.fs.L:=by ext i3.m;rw[ak]
   rw[<-this];exact h4
  delta uT at h6;rw[ak] at h6;symm
 let Qx:∀c,sX c ds=true↔uU Áu bits c:=λc=>by
  ext sX uU;rw[jH,ak];exact(λh z hz=>mO (h z ((x4 z).mpr hz)),λh z hz=>eP (h z ((x4 z).mp hz)))
 let uf:=mf.R n5.1;let gH:(gi bits).L<=4096:=by
  rw[ZW];exact gn (ym Ñ x6) Ñ
 refine⟨_,Á,pb,bits,Á,n5.1 _ _ hb4,x6,λH6 pc n6=>⟨pc,Á,⟨_,aa.of n6.2.2⟩,λD6 hD6=>fV (K:=K) (a:=pc) (xs:=iv (nv (gi bits))) (λi H'=>∃ts:List (Addr×Nat),ai H6 H'/\H' D6=Α (.lst (ts.M λt=>V.ref t.1))/\(∀t∈ts,H' t.1=Α (.tup [.int ((uS t.2:Nat):Int),.int ((t.2:Nat):Int)])/\t.1≠D6)/\ts.M (·.2)=((gi bits).take i).J λc=>sX c ds)
  ⟨[],aG hD6,aq,by simp,rfl⟩ (λi H' _ f=>(by let(_,s7,_):=f;exact aa.of (s7 _ _ n6.2.2))) ą (λH7 f=>?_)⟩⟩
 .let(c,pQ,rfl):=jr hi;let(ts,s7,xS,Y,W):=f;let qJ:=bj pQ;let hpd:=s7 _ _ (n6.1 _ _ n5.2.2);let Bk:ts.L<=4096:=by
   let j:=b9 List.length W;rw[ak] at j;let h2:=B3 (λc=>sX c ds) ((gi bits).take i);rw[iR] at h2;lia
  apply(Á,_,Á,_,Á,c,pd,ds,Á,hpd,λH8 U=>⟨_,Á,a0 (λhq=>?_) (λhq=>?_)⟩)
  .apply(_,Á,c,Á,Qw c qJ,λH9 s9=>⟨_,Á,(by show 2<=sizeLine;decide),λt J=>?_⟩);let xT:=U.R s9;let tD:t≠D6:=λz=>by rw[z,xT _ _ xS] at J;cases J
   let ma:ai H9 (upd H9 t (.tup [.int ((uS c:Nat):Int),.int ((c:Nat):Int)])):=aG J;apply(_,ma _ _ (xT _ _ xS),by rw[ak];exact f7 Î,ts++[(t,c)],fc (s7.R (xT.R ma)) hD6,by rw[aq,bH];rfl,λx O=>?_,?_)
   .rcases fu.mp O with O|O
    .exact(by rw[az (Y x O).2];exact ma _ _ (xT _ _ (Y x O).1),(Y x O).2)
    .rw[iS.mp O];exact(by rw[az tD];exact aq,tD)
   .rw[A1 pQ,ah hq,bH,W];rfl
  .apply(ts,s7.R U,U _ _ xS,λx O=>⟨U _ _ (Y x O).1,(Y x O).2⟩,?_);rw[A1 pQ,ag hq,jF];exact W
 let(ts,s7,xS,Y,W):=f;rw[dw,gO,i4] at W;let vQ:=uf.R (n6.1.R s7);refine⟨_,Á,di _,λz hz=>⟨D6,z,_,Á,Á,aa.of ((aG hz) _ _ xS),aa.of aq,_,Á,a0 Æu Æu⟩⟩
 .apply gc ((k4 λc qJ hP=>?_).go (vQ.R (aG hz)));let Ei:ts=[]:=by
   cases ts with
   |nil=>rfl
   |cons a b=>simp at hn
  rw[Ei] at W;let:c∈(gi bits).J λc=>sX c ds:=iz.mpr ⟨qJ,(Qx c).mpr hP⟩;rw[<-W] at this;cases this
 .let U:ai H7 (upd H7 z ã):=aG hz;generalize upd H7 z ã=H8 at U;let ic:∀t∈ts,t.2∈gi bits/\sX t.2 ds=true:=λt J=>iz.mp (by rw[<-W];exact zZ J);apply(_,Á,D6,ts.M (·.1),ts.M λt=>x5 t.2,Á,aa.of (by rw[cj];exact U _ _ xS),by simp,λi a c j h2=>?_,?_,λi a c j h2 h3=>?_)
  .rw[bz] at j h2;let(t,J,rfl):=u0.mp j;rw[J] at h2;cases h2;let BL:=bj J;exact(bw.of (U _ _ (Y t BL).1),j3 (Qw _ (ic t BL).1) Ñ)
  .rw[ak];cases ts with
   |nil=>simp at hn
   |cons a b=>simp
  .rw[bz] at j h2;let(t,J,rfl):=u0.mp j;rw[J] at h2;cases h2;let BL:=bj J;apply k5 t.2 (ic t BL).1 ((Qx _).mp (ic t BL).2) (λd hd hP=>h3 (x5 d) ?_) _ _ (vQ.R U) (U _ _ (Y t BL).1);let:d∈ts.M (·.2):=by rw[W];exact iz.mpr ⟨hd,(Qx d).mpr hP⟩
   let(u,hu,rfl):=bG.mp this;exact zZ (f:=λt:Addr×Nat=>x5 t.2) hu
end
inductive uV(ms:aI)(p:eV)(rs:List wu):LI->Prop
 |cut (_:jy p=true):uV ms p rs [-3]
 |none (_:jy p=false) (_:rs=[]):uV ms p rs [-5]
 |aaq (_:jy p=false) (_:rs≠[]) (_:12<(fQ (eF p)).L\/64<rs.L):uV ms p rs [-7]
 |never (_:jy p=false) (_:rs≠[]) (_:(fQ (eF p)).L<=12) (_:rs.L<=64) (_:∀c∈gi Âh,¬uU Äf Âh c):uV ms p rs [-10]
 |some (_:jy p=false) (_:rs≠[]) (_:(fQ (eF p)).L<=12) (_:rs.L<=64) (c:Nat) (_:c∈gi Âh) (_:uU Äf Âh c) (_:∀d∈gi Âh,uU Äf Âh d->mi (x5 c)<=mi (x5 d)):uV ms p rs [((uS c:Nat):Int),((c:Nat):Int)]
inductive aar(k:Kn)(vs:ay)(H:Hp)(Q:VK)(E':XK):Prop
 |mk (f:zu) (_:vs=[.ref f.a]) (_:PM k H f) (_:ET (f.l.kinds.M au.m) f.p.m (f.rs.M eK.m)) (_:∀z,uV (f.l.kinds.M au.m) f.p.m (f.rs.M eK.m) z->∀H' r,H' r=Α (.lst (iv z))->Q ϣ H')
def apK(f:zu):(IC f).Q ("locker":Str)=Α (.ref f.l.a):=gK
def apL(f:zu):(IC f).Q ("plate":Str)=Α (.ref f.p.a):=(fm É).R ((fm É).R gK)
section
variable{P:Pg}{w:Wd}{K:FR}{mg:MG}{base:Heap}{CA C1 C2 C3 C4 N1 N2 N3 N4:Addr}{k:Kn}
def aas:bC ["finding","fewest"] ["finding"] (ba Na):=cg
def apM{f:Addr}{fd:FD}(F:br K "ask_told" "ask_told" Na f fd)(T:jt K k.CF ["locker","book","plate","readings"])(TL:jt K k.CL ["name","kinds"])(Z:Ğ "CutOff" C1 N1)(X2:Ğ "NoReading" C2 N2)(X3:Ğ "TooMuchToAsk" C3 N3)(X4:Ğ "NeverSettled" C4 N4)(nd:[C1,C2,C3,C4].Nodup)(zl:mg "list"=Β)(dF:Ċ Ē 6 "fewest_flags" ["kinds","plate","readings"] (aam k.C k.CK k.CR CA C1 C2 C3 C4)):Ë 7 f fd ["finding"] (aar k):=by
 let(fF,anq,GF,mF,kF,bF):=dF;refine F.ok aas Â;let(fd,rfl,J,ok,q):=h;simp only[kY,a8,kZ,k7,not_or,not_false_eq_true,z6,and_true] at nd;let((n1,n2,n3),(n4,n5),n6):=nd;refine⟨_,aB (UT ⟨Á,Á⟩ (UU (i:=1) aas.nd Á (Or.inl Á) GF hr Á mF kF bF (ae (aX ĺ Á) (ae ĺ (ae ĺ af))))
   (xm (ts:=uK 3) Z.c rfl Z.mC ñ
   (xm (ts:=uK 5) X2.c rfl X2.mC ñ
   (xm (ts:=uK 7) X3.c rfl X3.mC ñ
   (xm (ts:=uK 10) X4.c rfl X4.mC ñ UQ)))))
  (aA (aV (vx Th Ð zl HL Ĺ))),?_⟩
 let U:∀(z n:Int),uV (fd.l.kinds.M au.m) fd.p.m (fd.rs.M eK.m) [z]->z= -n->∀(D:Ends)(σ:L2.St)(H':Hp),D.rt=Q->uK n D σ H':=λz n e1 e2 D σ H' hD=>by
  subst e2;exact(_,Á,(by show 1<=sizeLine;decide),λr hr=>by rw[hD];exact q _ e1 _ r aq)
 apply(_,Á,aY J.a T.1 (T.2 _ Ä) (apK fd) (aY (A9 J.l.lies) TL.1 (TL.2 _ Ä) (DJ fd.l) ⟨_,Á,aY J.a T.1 (T.2 _ Ä) (apL fd) ⟨_,Á,aY J.a T.1 (T.2 _ Ä) (ani fd) ⟨fd.l.kl,fd.l.kinds,fd.p,fd.q,fd.rs,Á,J.l.ks,J.p,J.rs,ok,λhc H1 M=>?_,λhc j H1 M=>?_,λhc j hm H1 M=>?_,λhc j x6 O hn H1 M=>?_,λhc j x6 O c qJ hs Qy H1 t M ht=>?_⟩⟩⟩))
 .exact(C1,N1,Á,Z.c,λa W gU fl=>⟨λ_ Y zw=>U _ _ (.cut hc) Á _ _ _ Á,λz=>absurd Á z⟩)
 .exact(C2,N2,Á,X2.c,λa W gU fl=>⟨λz=>absurd z.symm n1,λ_=>⟨λ_ Y zw=>U _ _ (.none hc (by rw[j];rfl)) Á _ _ _ Á,λz=>absurd Á z⟩⟩)
 .exact(C3,N3,Á,X3.c,λa W gU fl=>⟨λz=>absurd z.symm n2,λ_=>⟨λz=>absurd z.symm n4,λ_=>⟨λ_ Y zw=>U _ _ (.aaq hc (À j) (by rw[ak];exact hm)) Á _ _ _ Á,λz=>absurd Á z⟩⟩⟩)
 .exact(C4,N4,Á,X4.c,λa W gU fl=>⟨λz=>absurd z.symm n3,λ_=>⟨λz=>absurd z.symm n5,λ_=>⟨λz=>absurd z.symm n6,λ_=>⟨λ_ Y zw=>U _ _ (.never hc (À j) x6 (by rw[ak];exact O) hn) Á _ _ _ Á,λz=>absurd Á z⟩⟩⟩⟩)
 .apply(_,Á,t,_,Á,.inr (bw.of ht),λr hr=>q _ (.some hc (À j) x6 (by rw[ak];exact O) c qJ hs Qy) _ r ?_);rw[aq];rfl
inductive Qz(K:FR)(vs:ay)(H:Hp)(Q:VK)(E':XK):Prop
 |mk (at_ ab ap:Addr) (t b p:LI) (_:vs=[.ref at_,.ref ab,.ref ap]) (_:ä at_ (iv t)) (_:ä ab (iv b)) (_:ä ap (iv p)) (_:t.L<=66000) (_:b.L<=66000) (_:p.L<=66000) (_:(∀x,gM t=Α x->IA x.2)) (_:(∀m,ip p=.ok m->IB m)) (_:(∀z,ŵ p=Α z->∀H' r,H' r=Α (.lst [.int z])->Q ϣ H')) (_:(ŵ p=Β->∀x y m,gM t=Α x->lQ x.1 x.2 b=Α y->ip p=.ok m->ET x.2 m (jc x.2 (y.2.M (·.1)) m)/\∀z,uV x.2 m (jc x.2 (y.2.M (·.1)) m) z->∀H' r,H' r=Α (.lst (iv z))->Q ϣ H'))
def apN:bC ["t","b","p"] ["t","b","p"] (ba AK):=cg
def apO{f fT:Addr}{fd:FD}(F:br K "ask" "ask" AK f fd)(mT:mg "ask_told"=Α (.ref fT))(M:Ç 8 "answered" ["t","b","p","told"] (YV K k fT (aar k))):Ë 9 f fd ["t","b","p"] (Qz K):=by
 refine F.ok apN Â;let(at_,ab,J,t,b,p,rfl,Z,h2,h3,l1,l2,l3,Y,g2,k1,k2):=h;apply(_,aA (aV (bx M (ae Ø (ae á (ae å (ae (vp (v:=.ref fT) Ð mT Á) af)))))),?_);apply(_,Á,_,Á,_,Á,at_,ab,J,t,b,p,Á,Z,h2,h3,l1,l2,l3,Y,g2,k1,λU x y m ex W O H' fd s' ok j=>?_);let(q1,q2):=k2 U x y m ex W O;apply(fd,Á,ok,?_,λz hz q r e=>q2 z ?_ q r e)
 .rw[j.k,j.p,j.r];exact q1
 .rw[j.k,j.p,j.r] at hz;exact hz
end
end HD
namespace HD
open PySem L2 JM
theorem EU{z:LN}:∀{m:LN},m∈Flags.choices z↔m.Sublist z:=by
 induction z with
 |nil=>
  intro m;ext Flags.choices;simp
 |cons x r q=>
  intro m;ext Flags.choices;rw[fu,bG,q,auk];refine or_congr Iff.rfl ⟨λ⟨a,j,h2⟩=>⟨a,h2.symm,q.mp j⟩,λ⟨a,j,h2⟩=>⟨a,q.mpr h2,j.symm⟩⟩
def apP(bits:LN):∀c,c∈gi bits↔ ∃s:LN,s.Sublist bits/\s.sum=c:=by
 apply snoc_ind (P:=λbits=>∀c,c∈gi bits↔ ∃s:LN,s.Sublist bits/\s.sum=c) (λc=>?_) (λl b J c=>?_) bits
 .simp[gi,eq_comm]
 .rw[Qk,fu,bG,J];apply(λh=>?_,λ⟨s,j,h2⟩=>?_)
  .rcases h with ⟨s,j,h2⟩|⟨a,j,h2⟩
   .exact(s,j.R (List.sublist_append_left ..),h2)
   .let(s,q,z):=(J a).mp j;exact(s++[b],q.append (abr _),by rw[Ft,z,<-h2];simp)
  .let(M,O,rfl,q,z):=List.sublist_append_iff.mp j;rcases auk.mp z with F|⟨r,rfl,F⟩
   .rw[List.sublist_nil.mp F,jF] at h2;exact .inl ⟨M,q,h2⟩
   .rw[List.sublist_nil.mp F,Ft] at h2;exact .inr ⟨M.sum,(J _).mpr ⟨M,q,Á⟩,by rw[<-h2];simp⟩
def aat{q:LN}{c:Nat}:c∈gi (q.M (2^ ·))↔ ∃m∈Flags.choices q,c=Flags.numberOf m:=by
 rw[apP];apply(λ⟨s,j,h2⟩=>?_,λ⟨m,j,h2⟩=>⟨m.M (2^ ·),(EU.mp j).M _,h2.symm⟩);let(m,z,rfl):=List.sublist_map_iff.mp j;exact(m,EU.mpr z,h2.symm)
abbrev Up(m:LN):Prop:=m.Pairwise (· < ·)
def apQ(l:LN)(x:Nat):Flags.numberOf (l++[x])=2^x+Flags.numberOf l:=by
 ext Flags.numberOf;rw[bH,Ft];simp[abx]
def BM(m:LN):Up m->(∀n,(∀x∈m,x<n)->Flags.numberOf m<2^n)/\∀q,(Flags.numberOf m).testBit q=decide (q∈m):=by
 apply snoc_ind (P:=λm=>Up m->(∀n,(∀x∈m,x<n)->Flags.numberOf m<2^n)/\∀q,(Flags.numberOf m).testBit q=decide (q∈m)) (λ_=>⟨λn _=>?_,λq=>?_⟩) (λl x ih h=>?_) m
 .exact abD n
 .simp[Flags.numberOf]
 .let(O,_,h2):=aul.mp h;let F:∀y∈l,y<x:=λy Z=>h2 y Z x Ä;let(M,J):=ih O;let hb:=M x F;rw[apQ];apply(λn Y=>?_,λq=>?_)
  .let:x+1<=n:=Y x Ä;let j:=ym (show 0<2 by decide) this;rw[z4] at j;lia
  .rcases abG q x with j|j|j
   .rw[abB j,J];simp[show q≠x by lia]
   .subst j;rw[abC,J];let:q∉l:=λz=>nq _ (F q z);simp[this]
   .let U:2^x+Flags.numberOf l<2^q:=by
     let W:=ym (show 0<2 by decide) (show x+1<=q by assumption);rw[z4] at W;omega
    rw[B5 U];let:q∉l:=λz=>by let:=F q z;lia
    simp[this,show q≠x by lia]
def apR{m p:LN}(F:Up m)(J:Up p):Flags.numberOf m&&& Flags.numberOf p≠0↔ ∃q∈p,q∈m:=by
 let(_,a):=BM m F;let(_,b):=BM p J;apply(λh=>?_,λ⟨q,j,h2⟩ h=>?_)
 .apply Fv λn=>h (abz λi=>?_);rw[z8,a,b,Nat.zero_testBit];by_cases j:i∈m
  .let:i∉p:=λz=>n ⟨i,z,j⟩;simp[this]
  .simp[j]
 .let:(Flags.numberOf m&&& Flags.numberOf p).testBit q=true:=by
   rw[z8,a,b];simp[j,h2]
  rw[h] at this;simp at this
theorem apS(k:Nat):∀n,sW k n=((List.range k).J n.testBit).L:=by
 induction k with
 |zero=>exact λ_=>Á
 |succ k q=>
  intro n;ext sW;rw[q,zW,rK,wI];let e:(n.testBit∘Nat.succ)=(n/2).testBit:=by
   funext i;show n.testBit (i+1)=_;rw[Nat.testBit_succ]
  rw[e];let j:n.testBit 0=decide (n%2=1):=Nat.testBit_zero ..;rw[j];rcases Nat.mod_two_eq_zero_or_one n with h|h
  .simp[h]
  .simp[h];lia
def apT{m:LN}(j:Up m)(z:∀x∈m,x<40):uS (Flags.numberOf m)=m.L:=by
 rw[ZU,apS];apply List.Perm.length_eq ((List.perm_ext_iff_of_nodup ?_ ?_).mpr λq=>?_)
 .exact List.Pairwise.filter _ R7
 .exact j.imp λh=>fU h
 .rw[iz,(BM m j).2,u7];simp;exact z q
def wx(m b:LN):Prop:=m.L<b.L\/(m.L=b.L/\Flags.numberOf m<Flags.numberOf b)
def apU(f:Option LN->LN->Option LN)(W:f=λ(U:Option LN)(m:LN)=>match U with
  |none=>some m
  |some b=>if m.L<b.L\/(m.L=b.L/\Flags.numberOf m<Flags.numberOf b) then some m else some b) (l:bf):∀acc,(l.foldl f acc=Β->l=[]/\acc=Β)/\∀m,l.foldl f acc=Α m->(m∈l\/acc=Α m)/\(∀x∈l,¬wx x m)/\∀a,acc=Α a->¬wx a m:=by
 induction l with
 |nil=>
  intro acc;apply(λh=>⟨Á,h⟩,λm h=>⟨.inr h,λx Z=>(by cases Z),λa e=>?_⟩);let h:acc=Α m:=h;rw[h] at e;cases e;ext wx;symm
 |cons x l ih=>
  intro acc;let(J,M):=ih (f acc x);rw[Fu];cases acc with
  |none=>
   let e:f none x=Α x:=by rw[W]
   rw[e] at J M;apply(λh=>absurd (J (by rw[<-h,e])).2 Ä,λm h=>?_);let(j,O,F):=M m (by rw[<-h,e]);apply(.inl ?_,λy q=>?_,λa z=>(by cases z))
   .rcases j with j|j
    .exact aK _ j
    .rw[aQ j];exact eO
   .rcases a8.mp q with rfl|q
    .exact F _ Á
    .exact O y q
  |some b=>
   by_cases Y:wx x b
   .let e:f (some b) x=Α x:=by rw[W];exact ah Y
    rw[e] at J M;apply(λh=>absurd (J (by rw[<-h,e])).2 Ä,λm h=>?_);let(j,O,F):=M m (by rw[<-h,e]);apply(.inl ?_,λy q=>?_,λa z=>?_)
    .rcases j with j|j
     .exact aK _ j
     .rw[aQ j];exact eO
    .rcases a8.mp q with rfl|q
     .exact F _ Á
     .exact O y q
    .let:=F _ rfl;cases z;delta wx at*;lia
   .let e:f (some b) x=Α b:=by rw[W];exact ag Y
    rw[e] at J M;apply(λh=>absurd (J (by rw[<-h,e])).2 Ä,λm h=>?_);let(j,O,F):=M m (by rw[<-h,e]);apply(j.imp (aK _) id,λy q=>?_,F);rcases a8.mp q with rfl|q
    .let:=F _ rfl;delta wx at*;grind
    .exact O y q
def jz(M:LN):LN:=M.zipIdx.flatMap λx=>(List.range x.1).M λp=>8*x.2+p
def aau(l:LN)(n:Nat):jz (l++[n])=jz l++(List.range n).M λp=>8*l.L+p:=by
 ext jz;rw[aui,wH];simp
def EV(M:LN):fQ M=(jz M).M (2^ ·):=by
 ext fQ jz zG;rw[Sa];simp only[cj];rfl
def aav(M:LN):(∀n∈M,n<=8)->Up (jz M)/\∀q∈jz M,q<8*M.L:=by
 apply snoc_ind (P:=λM=>(∀n∈M,n<=8)->Up (jz M)/\∀q∈jz M,q<8*M.L) (λ_=>⟨List.Pairwise.nil,λq h=>by cases h⟩) (λl n Y h=>?_) M;let(W,z):=Y λx U=>h x (by simp[U]);let Z:=h n Ä;rw[aau];apply(aul.mpr ⟨W,?_,λa F b J=>?_⟩,λq j=>?_)
 .apply JS.mpr (auc.imp λh=>?_);symm
 .let:=z a F;let(p,_,rfl):=bG.mp J;lia
 .rw[j4,abF];rcases fu.mp j with j|j
  .let:=z q j;lia
  .let(p,O,rfl):=bG.mp j;let:=u7.mp O;lia
def apV{α:Type}(F:Nat->α)(hs:bf):(∀h∈hs,h.L<=8)->(jz Àz).M (λq=>(hs[q/8]?).bind λh=>(h.M F)[q%8]?)=hs.flatten.M λf=>some (F f):=by
 apply snoc_ind (P:=λhs=>(∀h∈hs,h.L<=8)->(jz Àz).M (λq=>(hs[q/8]?).bind λh=>(h.M F)[q%8]?)=hs.flatten.M λf=>some (F f)) (λ_=>Á) (λl h W J=>?_) hs;let z:∀x∈l,x.L<=8:=λx j=>J x (by simp[j]);let h2:=J h Ä;rw[bH,a7,mJ,aau,bH,at1,bH,<-W z];congr 1
 .apply iT λq U=>?_;let:=(aav _ (λn O=>by let(x,j,rfl):=bG.mp O;exact z x j)).2 q U;rw[ak] at this;rw[Fj Î]
 .rw[cj];apply List.ext_getElem Ä λi M Y=>?_;let hi:i<h.L:=by simpa using M
  simp only[List.getElem_map,abc,abo,ak];rw[show(8*l.L+i)/8=l.L by lia,show(8*l.L+i)%8=i by lia];simp[hi]
theorem apW(r:LN):Flags.before r r=false:=by
 induction r with
 |nil=>rfl
 |cons x r j=>
  show(decide (x<x)||(x==x&&Flags.before r r))=false;simp[j]
theorem apX(r:LN):∀s:LN,r.L=s.L->r≠s->Flags.before r s=true\/Flags.before s r=true:=by
 induction r with
 |nil=>
  intro s h n;cases s with
  |nil=>exact absurd Á n
  |cons=>cases h
 |cons x r q=>
  intro s h n;cases s with
  |nil=>cases h
  |cons y s=>
   show(decide (x<y)||(x==y&&Flags.before r s))=true\/(decide (y<x)||(y==x&&Flags.before s r))=true;rcases abG x y with j|j|j
   .simp[j]
   .subst j;let:=q s (À h) λe=>n (by rw[e]);simpa using this
   .simp[j]
def x9(j:LN)(a b:List (Option (Nat×Nat))):LN:=((j.zip (a.zip b)).J λ(q:Nat×Option (Nat×Nat)×Option (Nat×Nat))=>q.2.1!=q.2.2).M λ(q:Nat×Option (Nat×Nat)×Option (Nat×Nat))=>q.1
def apY(x y:Face)(f g:List Face)(b:Nat)(bits:LN):lU (x::f) (y::g) (b::bits)=(if x=y then 0 else b)+lU f g bits:=by
 let e:((List.range bits.L).J ((λi=>!decide ((x::f)[i]? =(y::g)[i]?))∘Nat.succ))=(List.range bits.L).J λi=>!decide (f[i]? =g[i]?):=JW λi _=>Ä;ext lU;rw[dg,zW,rK,wI,e];let j:((((List.range bits.L).J λi=>!decide (f[i]? =g[i]?)).M Nat.succ).M λi=>(b::bits).D i 0)=((List.range bits.L).J λi=>!decide (f[i]? =g[i]?)).M λi=>bits.D i 0:=by
  rw[cj];rfl
 by_cases h:x=y
 .rw[ag (by simp[h]),ah h,j,vc]
 .rw[ah (by simp[h]),ag h,a7,j,gq];rfl
def aaw(f g:List Face)(bits:LN):lU f g bits=lU g f bits:=by
 ext lU;congr 2;apply JW λi _=>?_;rw[JU.mpr eq_comm]
theorem apZ(A B:Nat->Face)(C D:Nat->Option (Nat×Nat))(j:LN):∀u v:LN,u.L=j.L->v.L=j.L->(∀x∈u,∀y∈v,A x=B y↔C x=D y)->lU (u.M A) (v.M B) (j.M (2^ ·))=Flags.numberOf (x9 j (u.M C) (v.M D)):=by
 induction j with
 |nil=>exact λ_ _ _ _ _=>Á
 |cons q j J=>
  intro u v M O h;cases u with
  |nil=>cases M
  |cons x u=>
   cases v with
   |nil=>cases O
   |cons y v=>
    let J:=J u v (À M) (À O) λa U b W=>h a (aK _ U) b (aK _ W);let F:=h x eO y eO;simp only[a7];rw[apY,J];ext x9;rw[zU,zU,rK];by_cases e:A x=B y
    .rw[ah e,ag (by simpa using F.mp e),vc]
    .rw[ag e,ah (by simpa using λz=>e (F.mpr z))];ext Flags.numberOf;simp
def ap1(j:LN)(a b:List (Option (Nat×Nat))):(x9 j a b).Sublist j:=by
 ext x9;let z:=(abE (l:=j.zip (a.zip b)) (p:=λ(q:Nat×Option (Nat×Nat)×Option (Nat×Nat))=>q.2.1!=q.2.2)).M λ(q:Nat×Option (Nat×Nat)×Option (Nat×Nat))=>q.1;apply z.R ?_;let h2:∀(l:LN)(c:List (Option (Nat×Nat)×Option (Nat×Nat))),((l.zip c).M λq=>q.1).Sublist l:=by
  intro l;induction l with
  |nil=>exact λc=>abr _
  |cons x l F=>
   intro c;cases c with
   |nil=>exact List.nil_sublist _
   |cons y c=>exact(F c).cons₂ x
 exact h2 _ _
def ap2{classes look J:LI}(hc:gf classes)(h:gf look)(h':gf J){d d':Nat}(hd:d=0\/d=1)(M:d'=0\/d'=1):Àu d=oP J classes d'↔Flags.seenFrom ĉ d (c7 look)=Flags.seenFrom ĉ d' (c7 J):=by
 let O:∀g,Flags.lookOf g=((List.range 16).M λi=>Flags.cell (Flags.lookOf g) i*16^i).sum:=λg=>b9 List.sum (iT λi hi=>by rw[DS _ (u7.mp hi)]);let j:∀{look:LI}{d:Nat},gf look->(Àu d).L=16:=λh=>by
  ext oP;split
  .simp
  .rw[ak,h.1]
 apply(λe=>?_,λe=>List.ext_getElem (by rw[j h,j h']) λi q U=>?_)
 .let F:∀i<16,Flags.cell (Flags.seenFrom ĉ d (c7 look)) i=Flags.cell (Flags.seenFrom ĉ d' (c7 J)) i:=λi hi=>by
   let z:=EI hc h hd hi;let h2:=EI hc h' M hi;rw[e,h2] at z;lia
  delta Flags.seenFrom Flags.inLight at F⊢;apply(O _).R (Eq.R ?_ (O _).symm);exact b9 List.sum (iT λi hi=>by rw[F i (u7.mp hi)])
 .rw[j h] at q;let z:=EI hc h hd q;let h2:=EI hc h' M q;rw[e,<-h2] at z;simpa [ij,j h,j h',q] using z
def Jd(m:eV):Flags.flagsOf ϗ=jz (eF m):=by
 ext Flags.flagsOf jz eF;rw[show(fX m).hoists=m.ao.M iZ from rfl,List.zipIdx_map,List.zipIdx_map,R9,R9];congr 1;funext x;show(List.range (x.1.flags.M iC).L).M _=_;rw[ak];rfl
def aay(m:eV):Flags.whole ϗ=!jy m:=by
 ext Flags.whole jy;rw[show(fX m).hoists=m.ao.M iZ from rfl,rH,List.not_any_eq_all_not];congr 1;funext g;show(!g.above&& !g.below)=!(g.above||g.below);cases g.above <;> rfl
section
variable{L:Flags.Locker}{B:Flags.Book}{ms:aI}{rows:bf}{m:eV}
theorem ap4{c d:Nat}(h:LN):∀s,L.flagsFit c d h s=true->∀f∈h,f<L.kinds.L:=by
 induction h with
 |nil=>exact λ_ _ f j=>by cases j
 |cons x h F=>
  intro s e f j;cases s with
  |nil=>cases e
  |cons y s=>
   let e:(L.flagFits c d x y&&L.flagsFit c d h s)=true:=e;let(q,z):=tw.mp e;rcases a8.mp j with rfl|j
   .apply Fv λn=>?_;delta Flags.Locker.flagFits at q;rw[yk Å] at q;cases q
   .exact F s z f j
theorem ap5{c d:Nat}(hs:bf):∀gs:List Flags.Glimpse,L.allFit c d hs gs=true->(∀g∈gs,(!g.above&& !g.below)=true)->hs.M List.length=gs.M (λg=>g.flags.L)/\∀h∈hs,∀f∈h,f<L.kinds.L:=by
 induction hs with
 |nil=>
  intro gs e _;cases gs with
  |nil=>exact(Á,λh W=>by cases W)
  |cons=>cases e
 |cons h hs ih=>
  intro gs e z;cases gs with
  |nil=>cases e
  |cons g gs=>
   let e:(L.fits c d h g&&L.allFit c d hs gs)=true:=e;let(F,M):=tw.mp e;let(Y,Z):=ih gs M λx j=>z x (aK _ j);let z:=z g eO;delta Flags.Locker.fits at F;let(a,_,q):=tu.mp F;let O:g.above=false:=by simp_all
   let U:g.below=false:=by simp_all
   rw[O,U] at q;simp at q;let(rfl,e4,J):=q;rw[abn,show g.flags.L=h.L by simp_all,i4] at J;apply(by rw[a7,a7,Y,show h.L=g.flags.L by simp_all],λx j=>?_);rcases a8.mp j with rfl|j
   .exact ap4 _ _ J
   .exact Z x j
structure EX(L:Flags.Locker)(B:Flags.Book)(ms:aI)(m:eV)(r:wu):Prop where
 n:r.1.L=m.ao.L
 f:∀{β:Type}(f:Nat->bf->β),((Flags.sides (fX m).side).filterMap λ(d:Nat)=>(L.mayFrom B ϗ r.1 d).M (f d))=r.2.2.M λd=>f d r.2.1
 sd:r.2.2.L<=2
 d:∀d∈r.2.2,d=0\/d=1
 w:jy m=false->r.2.1.M List.length=eF m/\∀h∈r.2.1,∀f∈h,f<ms.L
def ap6(hk:L.kinds=ms.M bJ)(g:uO ms)(lk:∀k∈ms,gf k.look)(O:B.entries.M Flags.Entry.row=rows)(sg:xX ms rows)(W:xZ m):∀r∈jc ms rows m,EX L B ms m r:=λr hr=>by
 let(x,q,e):=Jz.mp hr;rw[ZN] at q;let(hs,ss,h):=ZR hk g lk O sg W x q;let j:=(ZO _ x q).1;let j:x.L=m.ao.L:=by
  rw[j];exact ak ..
 rw[h.r] at e;by_cases hz:ss=[]
 .rw[ah hz] at e;cases e
 .rw[ag hz] at e;rw[<-aQ e];apply(j,h.f,h.n,λd hd=>(h.a d hd).1,λhc=>?_);cases ss with
  |nil=>exact absurd Á hz
  |cons d ss=>
   let M:=(h.a d eO).2;let F:=aay m;rw[hc] at F;let(J,z):=ap5 hs _ M λg U=>jH.mp F g U;refine Ϧ
   .rw[show hs.M List.length=_ from J,cj];apply iT λg _=>?_;exact ak ..
   .rw[hk,ak] at z;exact z
def ya(L:Flags.Locker)(c d f:Nat):Nat×Nat:=match L.kinds[f]? with
 |some k=>(k.shape,Flags.seenFrom c d k.look)
 |none=>(0,0)
def zM(L:Flags.Locker)(ms:aI)(cl:LI)(rs:List wu):List (LN×List Face×List (Option (Nat×Nat))):=rs.flatMap λr=>r.2.2.M λd=>(r.1,uT ms cl d r.2.1.flatten,r.2.1.flatten.M λf=>some Ån)
def ap7(cl:LI)(rs:List wu):jZ ms cl rs=(zM L ms cl rs).M λe=>(e.1,e.2.1):=by
 ext jZ zM sZ;rw[Sa];simp only[cj];rfl
def ap8(hr:(Àr m).M (·.1)=L.readings B ϗ)(j:∀r∈jc ms rows m,EX L B ms m r)(hc:jy m=false)(q:∀n∈eF m,n<=8):L.ways B ϗ=(zM L ms m.classes (Àr m)).M λe=>(e.1,e.2.2):=by
 ext Flags.Locker.ways zM;rw[<-hr,R9,Sa];let j:=j;generalize jc ms rows m=rs at j;induction rs with
 |nil=>rfl
 |cons r rs J=>
  rw[z7,z7,J λx F=>j x (aK _ F)];congr 1;let hr:=j r eO;rw[hr.f,cj];apply iT λd hd=>?_;let(w1,_):=hr.w hc;show(r.1,(Flags.flagsOf ϗ).M (L.lookAt Àn d r.2.1))=(r.1,r.2.1.flatten.M λf=>some (ya L Àn d f));rw[<-apV (ya L Àn d) r.2.1 λh z=>q _ (by rw[<-w1];exact zZ z),w1,Jd];rfl
def ap9(hk:L.kinds=ms.M bJ)(lk:∀k∈ms,gf k.look){cl:LI}(hc:gf cl){d d' f F:Nat}(hd:d=0\/d=1)(J:d'=0\/d'=1)(q:f<ms.L)(j:F<ms.L):jT cl d Ϝ=jT cl d' (ms.D F eW)↔some Ån=Α (ya L (c7 cl) d' F):=by
 let z:∀{f},f<ms.L->ms.D f eW∈ms:=λq=>by
  symm
 ext ya;rw[IM hk q,IM hk j];show(_,_)=(_,_)↔some ((bJ _).shape,Flags.seenFrom _ d (bJ _).look)=Α ((bJ _).shape,Flags.seenFrom _ d' (bJ _).look);rw[Option.some.injEq,Prod.mk.injEq,Prod.mk.injEq];exact and_congr Iff.rfl (ap2 hc (lk _ (z q)) (lk _ (z j)) hd J)
def aqa(hk:L.kinds=ms.M bJ)(lk:∀k∈ms,gf k.look){cl:LI}(gH:gf cl){rs:List wu}(O:∀r∈rs,EX L B ms m r)(hc:jy m=false):∀e∈zM L ms cl rs,∀j∈zM L ms cl rs,e.1.L=j.1.L/\lU e.2.1 j.2.1 (fQ (eF m))=Flags.numberOf (x9 Ãn e.2.2 j.2.2):=λe M j U=>by
 delta zM at M U;let(r,hr,h1):=jg.mp M;let(d,hd,rfl):=bG.mp h1;let(r',oK,Z):=jg.mp U;let(d',j6,rfl):=bG.mp Z;let R:=O r hr;let q:=O r' oK;let(w1,w2):=R.w hc;let(W,J):=q.w hc;let fl:∀{hs:bf},hs.M List.length=eF m->hs.flatten.L=(jz (eF m)).L:=λw=>by
  let:=Qo (eF m);rw[EV,ak] at this;rw[this,Sd,w]
 apply(by rw[show r.1.L=_ from R.n];exact q.n.symm,?_);rw[EV];apply apZ (λf=>jT cl d Ϝ) (λf=>jT cl d' Ϝ) (λf=>some Ån) (λf=>some (ya L (c7 cl) d' f)) _ _ _ (fl w1) (fl W) λx z y F=>?_;let(h,hh,z):=R1.mp z;let(h',Y,F):=R1.mp F;exact ap9 hk lk gH (R.d d hd) (q.d d' j6) (w2 h hh x z) (J h' Y y F)
def aqd{E:List (LN×List Face×List (Option (Nat×Nat)))}{Z p:LN}(up:Up Z)(hp:p∈Flags.choices Z)(h:∀e∈E,∀F∈E,e.1.L=F.1.L/\lU e.2.1 F.2.1 bits=Flags.numberOf (x9 Z e.2.2 F.2.2))(hw:L.ways B z=E.M λe=>(e.1,e.2.2))(hq:Flags.flagsOf z=Z):uU (E.M λe=>(e.1,e.2.1)) bits Åq↔((L.parted B z).all λ(l:LN)=>l.any λ(q:Nat)=>p.Y q)=true:=by
 let hp:=up.sublist (EU.mp hp);let hu:∀a b,Up (x9 Z a b):=λa b=>up.sublist (ap1 ..);let hc:∀l:LN,Up l->((l.any λ(q:Nat)=>p.Y q)=true↔Flags.numberOf p&&& Flags.numberOf l≠0):=λl hl=>by
  rw[apR hp hl,tu];simp only[B4]
 let hm:∀l,l∈L.parted B z↔ ∃e∈E,∃F∈E,Flags.before e.1 F.1=true/\x9 Z e.2.2 F.2.2=l:=λl=>by
  ext Flags.Locker.parted;rw[hw,hq];simp only[abA,jg,bG,iz];apply(λh=>?_,λh=>?_)
  .let(_,(e,J,rfl),_,((F,M,rfl),U),h2):=h;exact(e,J,F,M,U,h2)
  .let(e,J,F,M,U,h2):=h;exact(_,⟨e,J,Á⟩,_,⟨⟨F,M,Á⟩,U⟩,h2)
 rw[jH];let Y:∀{i:Nat}{x},(E.M λe=>((e.1,e.2.1):sY))[i]? =Α x↔ ∃e,E[i]? =Α e/\(e.1,e.2.1)=x:=λ{i x}=>by
  rw[bz];simp
 apply(λs l hl=>?_,λa y hy=>?_)
 .let(e,J,F,M,U,rfl):=(hm l).mp hl;apply(hc _ (hu ..)).mpr ?_;let hd:=(h e J F M).2;let aL:e.1≠F.1:=λz=>by
   rw[z,apW] at U;cases U
  let(i,hi,O):=nr J;let(j,hj,W):=nr M;let O:E[i]? =Α e:=by rw[cI hi,O]
  let W:E[j]? =Α F:=by rw[cI hj,W]
  rw[<-hd];let Bh:i≠j:=λz=>by
   rw[z,W] at O;cases O;exact aL Á
  rcases Nat.lt_or_gt_of_ne Bh with h2|h2
  .rw[aaw];exact s _ ⟨j,i,_,_,Y.mpr ⟨_,W,Á⟩,Y.mpr ⟨_,O,Á⟩,λz=>aL z.symm,Á,h2,.inl (by rw[ak];exact hj)⟩
  .exact s _ ⟨i,j,_,_,Y.mpr ⟨_,O,Á⟩,Y.mpr ⟨_,W,Á⟩,aL,Á,h2,.inl (by rw[ak];exact hi)⟩
 .let(i,j,x,x',U,h2,aL,rfl,_,_):=hy;let(e,O,rfl):=Y.mp U;let(F,W,rfl):=Y.mp h2;let J:=bj O;let M:=bj W;let(h3,h4):=h e J F M;rcases apX e.1 F.1 h3 aL with h5|h5
  .show _&&& lU e.2.1 F.2.1 bits≠0;rw[h4];exact(hc _ (hu ..)).mp (a _ ((hm _).mpr ⟨e,J,F,M,h5,Á⟩))
  .show _&&& lU e.2.1 F.2.1 bits≠0;rw[aaw,(h F M e J).2];exact(hc _ (hu ..)).mp (a _ ((hm _).mpr ⟨F,M,e,J,h5,Á⟩))
end
def Je(L:Flags.Locker)(B:Flags.Book)(z:Flags.Plate)(l:bf):Flags.Reply:=if Flags.whole z=false then Flags.says (-3) else if l=[] then Flags.NONE else if Flags.FLAGS<(Flags.flagsOf z).L\/Flags.READINGS<l.L then FlagsK9.TOOMUCH else match L.fewest B z with
 |some m=>Flags.tells (m.L:Nat) [Flags.numberOf m]
 |none=>Flags.says (-10)
def aaA(r:Flags.Reply):LI:=r.ret::((r.nums.M λ(n:Nat)=>(n:Int))++r.bytes.M λ(b:UInt8)=>(b.toNat:Int))
def aaB{m:eV}(z:xZ m):(∀n∈eF m,n<=8)/\Up Ãn/\∀q∈jz (eF m),q<40:=by
 let j:∀n∈eF m,n<=8:=λn J=>by
  let(g,F,rfl):=bG.mp J;exact z.inv.fl g F
 let(U,O):=aav _ j;apply(j,U,λq M=>?_);let W:=O q M;let h2:(eF m).L=m.ao.L:=ak ..;let Y:=z.inv.c6;lia
def Jf{j p:LN}(U:Up j)(F:∀q∈j,q<40)(z:p∈Flags.choices j):Up p/\(∀q∈p,q<40):=⟨U.sublist (EU.mp z),λq h=>F q ((EU.mp z).subset h)⟩
section
variable{L:Flags.Locker}{B:Flags.Book}{ms:aI}{rows:bf}{m:eV}
def aqe(z:xZ m)(j:∀r∈jc ms rows m,EX L B ms m r):ET ms m (Àr m):=by
 let(F,U,W):=aaB z;apply(λhc r hr=>?_,λr hr=>(j r hr).sd,λhc r hr=>?_,λc h=>?_)
 .rw[Qo,Sd,((j r hr).w hc).1];exact bA _
 .let(w1,Y):=(j r hr).w hc;apply(λh q=>⟨?_,Y h q⟩,?_)
  .let:=F h.L (by rw[<-w1];exact zZ q);lia
  .let h2:=b9 List.length w1;let Z:(eF m).L=m.ao.L:=ak ..;let h4:=z.inv.c6;rw[ak] at h2;lia
 .rw[EV] at h;let(p,J,rfl):=aat.mp h;let(M,O):=Jf U W J;exact(BM p M).1 40 O
def aqf(hr:(Àr m).M (·.1)=L.readings B ϗ)(hk:L.kinds=ms.M bJ)(lk:∀k∈ms,gf k.look)(pf:xZ m)(hf:∀r∈jc ms rows m,EX L B ms m r)(h:uV ms m (Àr m) z):aaA (Je L B ϗ ((Àr m).M (·.1)))=z:=by
 let(h8,U,u2):=aaB pf;let hl:(Flags.flagsOf ϗ).L=(fQ (eF m)).L:=by rw[EV,Jd,ak]
 ext Je;rw[aay,hl,ak,show Flags.FLAGS=12 from rfl,show Flags.READINGS=64 from rfl];let st:jy m=false->∀p∈Flags.choices Ãn,uU (jZ ms m.classes (Àr m)) (fQ (eF m)) Åq↔((L.parted B ϗ).all λ(l:LN)=>l.any λ(q:Nat)=>p.Y q)=true:=λhc p Z=>by
  rw[ap7 (L:=L)];exact aqd U Z (aqa hk lk pf.cl hf hc) (ap8 hr hf hc h8) (Jd m)
 obtain⟨F,Y,f1,f2⟩:∃F,F=(Flags.choices Ãn).J (λ(p:LN)=>(L.parted B ϗ).all λ(l:LN)=>l.any λ(q:Nat)=>p.Y q)/\(L.fewest B ϗ=Β->F=[]/\(none:Option LN)=Β)/\∀p,L.fewest B ϗ=Α p->(p∈F\/(none:Option LN)=Α p)/\(∀x∈F,¬wx x p)/\∀a,none=Α a->¬wx a p:=⟨_,rfl,by
  rw[<-Jd];exact apU _ Á _ none⟩
 let pn:∀p∈Flags.choices Ãn,uS Åq=p.L:=λp Z=>by
  let(q1,q2):=Jf U u2 Z;exact apT q1 q2
 let mp:∀c,c∈gi (fQ (eF m))↔ ∃p∈Flags.choices Ãn,c=Flags.numberOf p:=λc=>by
  rw[EV];exact aat
 cases h with
 |cut hc=>
  rw[hc];rfl
 |none hc J=>
  rw[hc,ag Ñ,ah (by rw[J];rfl)];rfl
 |aaq hc J h=>
  rw[hc,ag Ñ,ag λz=>J (RY.mp z),ah h];rfl
 |never hc J h1 h2 h=>
  rw[hc,ag Ñ,ag λz=>J (RY.mp z),ag Å];cases e:L.fewest B ϗ with
  |none=>rfl
  |some p=>
   let(M,_,_):=f2 p e;rw[Y] at M;let(g2,W):=iz.mp (M.resolve_right Ä);exact absurd ((st hc p g2).mpr W) (h _ ((mp _).mpr ⟨p,g2,Á⟩))
 |some hc J h1 h2 c hm hs Qy=>
  rw[hc,ag Ñ,ag λz=>J (RY.mp z),ag (by omega)];let(j,l5,rfl):=(mp _).mp hm;let O:j∈F:=by rw[Y];exact iz.mpr ⟨l5,(st hc j l5).mp hs⟩
  cases e:L.fewest B ϗ with
  |none=>
   rw[(f1 e).1] at O;cases O
  |some p=>
   let(M,g4,_):=f2 p e;rw[Y] at M;let(g2,W):=iz.mp (M.resolve_right Ä);let h5:=Qy _ ((mp _).mpr ⟨p,g2,rfl⟩) ((st hc p g2).mpr W);let h6:=g4 j O;delta wx at h6;delta mi x5 at h5;rw[pn p g2,pn j l5] at h5;rw[pn j l5];let(q1,q2):=Jf U u2 g2;let(q3,q4):=Jf U u2 l5;let b1:=(BM p q1).1 40 q2;let b2:=(BM j q3).1 40 q4;let:p.L=j.L/\Flags.numberOf p=Flags.numberOf j:=by lia
   show[((p.L:Nat):Int),((Flags.numberOf p:Nat):Int)]=_;rw[this.1,this.2]
end
def aqg(j:bq t)(U:bq b)(Y:bq p):
  (∀z,ŵ p=Α z->PyWqbada.ask t b p=[z])/\
  (ŵ p=Β->∀x y m,gM t=Α x->lQ x.1 x.2 b=Α y->ip p=.ok m->ET x.2 m (jc x.2 (y.2.M (·.1)) m)/\∀z,uV x.2 m (jc x.2 (y.2.M (·.1)) m) z->PyWqbada.ask t b p=z):=by
 let J:PlateNeutral.callOf [[6],t,b,p]=Α (.ask Án Ϟ Áq):=by
  show(PlateNeutral.text? t >>= λa=>PlateNeutral.text? b >>= λc=>PlateNeutral.text? p >>= λd=>some (FlagsK9.Call.ask a c d))=_;rw[LP j,LP U,LP Y];rfl
 let O:∀r,FlagsK9.ofAll Án Ϟ Áq Je=r->PyWqbada.ask t b p=aaA r:=λr er=>by
  ext PyWqbada.ask PlateNeutral.f;rw[J,<-er];rfl
 let(Z,a2):=ao8 j U Y Je;apply(λz hz=>?_,λh x y m q M e3=>?_)
 .rw[O _ (Z z hz)];rfl
 .let(F,e):=a2 h x y m q M e3;let lf:=IQ j q;let hr:=ZS (L:=zE x) (B:=zF y) rfl (EG lf) (IR j q) (IS y) (Qh M) F;let W:=ap6 (L:=zE x) (B:=zF y) rfl (EG lf) (IR j q) (IS y) (Qh M) F;exact(aqe F W,λz hz=>(O _ e).R (aqf hr Á (IR j q) F W hz))
end HD
namespace HD
open PySem PySem.Spec PyProof.Rows L2
open PySem.W (Codec)
def yb{K:FR}{C N:Addr}{od Z:OA}{nm Y:Str}{bs sub:LV}{sn:LS}{ab:Bool}{col:Option Bool}{j q z F J:Option Value}{U:Value}{es:Array DictEntry}{ep:Nat}{sl:AO}(M:K.Q C=Α ⟨.type "type",od,.cls ⟨nm,bs,.ref C::vH,N,Y,true,sn,sub,ab,col,false⟩,#[j,q,z,F,some (.builtin "Exception.__new__"),J]⟩) (h2:K.Q N=Α ⟨U,Z,.dict es ep,sl⟩)(O:(es.all λe=>match e.key with|.str _ _=>true|_=>false)=true):UA K C N:=by
 apply(_,_,_,_,_,_,_,_,_,_,_,_,_,M,?_);ext PySem.W.nsOkIn;rw[h2];exact O
def QB{l:LI}(h:l.all Áw=true):JM.bq l:=λx j=>by
 let q:=jH.mp h x j;exact Codec.inInt_iff.mp q
def aqi:typeLookup (.type "Exception") ("kind":Str)=pure none:=by rw[typeLookup_type,builtinLookup_eq_fast];kernel_rfl
def aqj:typeLookup (.type "Exception") ("line":Str)=pure none:=by rw[typeLookup_type,builtinLookup_eq_fast];kernel_rfl
section
variable{P:Pg}{w:Wd}{K:FR}{h base:Heap}{mg:MG}
def bX(K:FR)(g x:Str)(st:Stmt):Prop:=∃f fd,PySem.W.nsIn K mainGlobals g=Α Âr/\br K x x st f fd
def ar1{R:LV->Prop}(h:∀a,R [a]):∀U,U.L=1->R U:=λU j=>by
 let(a,rfl):=WJ j;exact h a
def ar2{R:LV->Prop}(h:∀a b,R [a,b]):∀U,U.L=2->R U:=λU j=>by
 let(a,b,rfl):=WK j;exact h a b
def Jg{R:LV->Prop}(h:∀a b c,R [a,b,c]):∀U,U.L=3->R U:=λU j=>by
 let(a,b,c,rfl):=WL j;exact h a b c
def Jh{R:LV->Prop}(h:∀a b c d,R [a,b,c,d]):∀U,U.L=4->R U:=λU j=>by
 let(a,b,c,d,rfl):=ako j;exact h a b c d
theorem Ji{R:LV->Prop}{n:Nat}(h:∀a U,U.L=n->R (a::U)):∀U,U.L=n+1->R U
 |a::U,hl=>h a U (À hl)
def bX.dn(P:Pg)(w:Wd)(base:Heap){CX:ox}{k:Nat}{g x:Str}{st:Stmt}{ps:LS}{sp:Sp}(D:bX K g x st)(X:K.In h)(G:h.Ns mainGlobals mg)(hk:∀f fd,br K x x st f fd->Ģ CX k f fd ps sp)(z:∀(kV J M:Value)(q:OA)(j ct:Value)(us:LV),us.L=ps.L->bindArgs (PySem.W.fnOf x x (vd st) Çd Âj .none kV J M q j ct) ⟨us,[]⟩=pure Às:=by first|exact λ_ _ _ _ _ _=>ar1 λ_=>Á|exact λ_ _ _ _ _ _=>ar2 λ_ _=>Á|exact λ_ _ _ _ _ _=>Jg λ_ _ _=>Á|exact λ_ _ _ _ _ _=>Jh λ_ _ _ _=>Á):Ċ CX k g ps sp:=
 let ⟨f,fd,a,F⟩:=D
 ⟨f,fd,hk f fd F,PySem.W.mg_of X G a,F.kp,F.binds z⟩
structure lV(K:FR)(x qn:Str)(C:Addr)(st:Stmt)(fs:LS):Prop where
 a:PySem.W.nsIn K mainGlobals x=Α (some Ĉ)
 f:∃g fd,Mk K C g/\br K "__init__" qn st g fd
 c:l7 K C
 n:(fs.all λf=>match PySem.W.findIn K Ĉ f with|some none=>true|_=>false)=true
def lV.no{x q:Str}{C:Addr}{st:Stmt}{fs:LS}(D:lV K x q C st fs){f:Str}(j:f∈fs):ϱ f:=by
 let:=jH.mp D.n f j;ext g7;split at this
 .assumption
 .cases this
def lV.t{x q:Str}{C:Addr}{st:Stmt}{fs:LS}(D:lV K x q C st fs):jt K C fs:=⟨D.c,λ_ j=>D.no j⟩
def lV.mk'(P:Pg)(w:Wd)(base:Heap){x q:Str}{C:Addr}{st:Stmt}{fs:LS}(D:lV K x q C st fs)(X:K.In h)(G:h.Ns mainGlobals mg)(d:∀f j A outer s H E,l6 (oy aE P w K mg base ("self"::fs) q Âj f j A outer s H E).yu Çd (GZ K 1 fs)) (S:bC ("self"::fs) ("self"::fs) Âj:=by exact cg Á É) (hs:fs.L<=1000:=by decide)(J:∀(kV M O:Value)(z:OA)(j ct:Value)(U:LV),U.L=("self"::fs:LS).L->bindArgs (PySem.W.fnOf "__init__" q (vd st) Çd Âj .none kV M O z j ct) ⟨U,[]⟩=pure (("self"::fs:LS).zip U):=by first|exact λ_ _ _ _ _ _=>Jg λ_ _ _=>Á|exact λ_ _ _ _ _ _=>Jh λ_ _ _ _=>Á|exact λ_ _ _ _ _ _=>Ji λ_=>Jh λ_ _ _ _=>Á|exact λ_ _ _ _ _ _=>Ji λ_=>Ji λ_=>Ji λ_=>Jh λ_ _ _ _=>Á):Ā x C fs:=
 let ⟨g,fd,m,F⟩:=D.f
 ⟨g,fd,m,aic F D.c (λ_ h=>D.no h) S hs (d g),PySem.W.mg_of X G D.a,F.binds J⟩
def Ci(K:FR)(x:Str)(i:Int):Prop:=∃t,PySem.W.nsIn K mainGlobals x=Α (some Âl)
def Ci.cn{x:Str}{i:Int}(c:Ci K x i)(X:K.In h)(G:h.Ns mainGlobals mg):Cn mg x Ãm:=let ⟨t,e⟩:=c;⟨_,PySem.W.mg_of X G e,⟨t,rfl⟩⟩
def Ct(K:FR)(x s:Str):Prop:=∃t,PySem.W.nsIn K mainGlobals x=Α (some (.str s t))
def Ct.cn{x s:Str}(c:Ct K x s)(X:K.In h)(G:h.Ns mainGlobals mg):Cn mg x (.str s):=let ⟨t,e⟩:=c;⟨_,PySem.W.mg_of X G e,⟨t,rfl⟩⟩
def Tu(K:FR)(x:Str)(vs:ay):Prop:=∃a o U n s,PySem.W.nsIn K mainGlobals x=Α (some ħ)/\K.Q a=Α ⟨.type "tuple",o,.seq U n,s⟩/\U.u<=100/\bp vs U.toList
def Tu.tn{x:Str}{vs:ay}(c:Tu K x vs)(X:K.In h)(G:h.Ns mainGlobals mg):Tn K mg x vs:=let ⟨_,_,_,_,_,e,l,z,v⟩:=c;⟨_,PySem.W.mg_of X G e,λ_=>.inr ⟨_,_,_,l,rfl,rfl,gn z Ñ,v⟩⟩
def dfk{g x:Str}{st:Stmt}{f:Addr}{O kV J F j ct:Value}{od q:OA}{z:AO}(a:PySem.W.nsIn K mainGlobals g=Α Âr:=by k_is)(l:K.Q f=Α ⟨O,od,.func (PySem.W.fnOf x x (vd st) Çd Âj .none kV J F q j ct),z⟩:=by k_is)(c:PySem.W.codeIn K j x=true:=by k_is)(k:PySem.W.keepIn K ď=true:=by k_is):bX K g x st:=⟨f,_,a,nO l c k⟩
def gj{x:Str}{i:Int}{t:Tok}(e:PySem.W.nsIn K mainGlobals x=Α (some Âl):=by k_is):Ci K x i:=⟨t,e⟩
def Ab(K:FR)(x:Str):Prop:=PySem.W.nsIn K mainGlobals x=Α none
def ph{x:Str}(e:PySem.W.nsIn K mainGlobals x=Α none:=by k_is):Ab K x:=e
def Ab.z{x:Str}(c:Ab K x)(X:K.In h)(G:h.Ns mainGlobals mg):mg x=Β:=PySem.W.mg_none_of X G c
structure yc(K:FR)(x:Str)(C N:Addr):Prop where
 a:PySem.W.nsIn K mainGlobals x=Α (some Ĉ)
 c:XC K C N
 k:PySem.W.keepIn K Ĉ=true
end
def all_mk{P:Pg}{w:Wd}{K:FR}{h:Heap}{mg:MG}{fa:Addr}(X:K.In h)(G:h.Ns mainGlobals mg)(hfa:mg "ask"=Α (.ref fa)){CS CG CP CK CL CV CQ CE fO CR CF CA CN NN CB NB CT NT C1 N1 C2 N2 C3 N3 C4 N4 o6 NP cM TM fM:Addr}{ocM kVM dcM pmM ctM:Value}{odM anM odC:OA}{slM slC:AO}{v0 v1 v2 v3 v4 v5 v6 v8 yQ LD LF LG LH LJ:Value}{fl tx:Int}{tf tt ts:Tok}{bb:Bool}{xs:Str}(aqx:bX K "cell_behind" "cell_behind" LQ)(aqy:bX K "cells_seen" "cells_seen" LR)(aqz:bX K "spelled" "spelled" LU)(aqA:bX K "cut" "cut" LW)(aqB:bX K "whole_lines" "whole_lines" LX)(aqC:bX K "place_among" "place_among" LY)(aqD:bX K "places_in" "places_in" LZ)(aqE:bX K "read_colours" "read_colours" L6)(aqF:bX K "is_name" "is_name" L7)(aqG:bX K "name_behind" "name_behind" L9)(aqH:bX K "read_locker" "read_locker" Ma)(aqI:bX K "read_name" "read_name" Mb)(aqJ:bX K "read_digit" "read_digit" Mc)(aqK:bX K "read_kind" "read_kind" Md)(aqL:bX K "are_in_order_lockers" "are_in_order" Me)(aqM:bX K "may_follow" "may_follow" Mf)(aqN:bX K "are_different" "are_different" Mg)(aqO:bX K "has_twice" "has_twice" Mh)(aqP:bX K "read_plate" "read_plate" Mj)(aqQ:bX K "read_line" "read_line" Ml)(aqR:bX K "read_side" "read_side" Mm)(aqS:bX K "read_row" "read_row" Mn)(aqT:bX K "may_stand" "may_stand" Mo)(aqU:bX K "lacks_flags" "lacks_flags" Mp)(aqV:bX K "lacks_cells" "lacks_cells" Mq)(aqW:bX K "has_whole_hoists" "has_whole_hoists" Mr)(aqX:bX K "put" "put" Ms)(aqY:bX K "sighting_of" "sighting_of" Mt)(aqZ:bX K "view_of" "view_of" Mu)(aq0:bX K "kinds_along" "kinds_along" Mv)(aq1:bX K "kinds_that_look_so" "kinds_that_look_so" Mw)(aq2:bX K "may_be" "may_be" Mx)(aq3:bX K "fits" "fits" My)(aq4:bX K "hoist_fits" "hoist_fits" Mz)(aq5:bX K "fits_at" "fits_at" MA)(aq6:bX K "display_told" "display_told" ML)(aq7:bX K "copies_lacking" "copies_lacking" MM)(aq8:bX K "sames_along" "sames_along" MN)(aq9:bX K "bits_of_sames" "bits_of_sames" MO)(ara:bX K "places_of" "places_of" MP)(arb:bX K "plan_of" "plan_of" MQ)(arc:bX K "places_outside" "places_outside" MR)(ard:bX K "copies_in" "copies_in" MS)(arf:bX K "hoist_told" "hoist_told" MT)(arh:bX K "flag_told" "flag_told" MU)(ari:bX K "hang" "hang" MV)(arj:bX K "read_book" "read_book" MW)(ark:bX K "numbers_of_signs" "numbers_of_signs" MX)(arl:bX K "read_entry" "read_entry" MY)(arn:bX K "read_signs" "read_signs" MZ)(aro:bX K "read_meaning" "read_meaning" M0)(arp:bX K "are_in_order_books" "are_in_order" M3)(arq:bX K "can_be_shown" "can_be_shown" M4)(ars:bX K "readings_of" "readings_of" M5)(art:bX K "entries_in_doubt" "entries_in_doubt" M6)(aru:bX K "product" "product" M7)(arv:bX K "all_rows" "all_rows" M8)(arw:bX K "sides_of" "sides_of" M9)(arx:bX K "answered" "answered" Nb)(ary:bX K "found" "found" Nc)(arz:bX K "fewest_flags" "fewest_flags" MB)(arA:bX K "bits_of_flags" "bits_of_flags" MC)(arB:bX K "appearances_of" "appearances_of" MD)(arC:bX K "flags_seen" "flags_seen" ME)(arD:bX K "differences_among" "differences_among" MF)(arE:bX K "difference" "difference" MH)(arF:bX K "choices_of" "choices_of" MI)(arG:bX K "settles" "settles" MJ)(arH:bX K "how_many" "how_many" MK)(arI:bX K "ask_told" "ask_told" Na)(Jj:lV K "Sighting" "Sighting.__init__" CS ahO ["shape","cells"])(EY:lV K "Glimpse" "Glimpse.__init__" CG ahP ["above","below","flags"])(EZ:lV K "Plate" "Plate.__init__" CP ahQ ["side","classes","glimpses"])(Y:lV K "Kind" "Kind.__init__" CK ahM ["role","name","which","copies","shape","look"])(zN:lV K "Locker" "Locker.__init__" CL ahN ["name","kinds"])(QC:lV K "View" "View.__init__" CV ahR ["side","glimpses"])(E1:lV K "Plan" "Plan.__init__" CQ ahT ["sames","gaps","spares"])(E3:lV K "Entry" "Entry.__init__" CE ahU ["row","meaning"])(QD:lV K "Book" "Book.__init__" fO ahV ["name","entries"])(QE:lV K "Reading" "Reading.__init__" CR ahW ["entries","hoists","sides"])(aaC:lV K "Finding" "Finding.__init__" CF ahX ["locker","book","plate","readings"])(QF:lV K "Appearance" "Appearance.__init__" CA ahS ["entries","flags"])(QG:yc K "NoLocker" CN NN)(arJ:PySem.W.nsIn K NN "__init__"=Α none)(QH:yc K "NoBook" CB NB)(arK:PySem.W.nsIn K NB "__init__"=Α none)(QI:yc K "TooMuchInDoubt" CT NT)(arL:PySem.W.nsIn K NT "__init__"=Α none)(QJ:yc K "CutOff" C1 N1)(arM:PySem.W.nsIn K N1 "__init__"=Α none)(QK:yc K "NoReading" C2 N2)(arN:PySem.W.nsIn K N2 "__init__"=Α none)(QL:yc K "TooMuchToAsk" C3 N3)(arO:PySem.W.nsIn K N3 "__init__"=Α none)(QM:yc K "NeverSettled" C4 N4)(arP:PySem.W.nsIn K N4 "__init__"=Α none)(QN:yc K "NoPlate" o6 NP)(y1:PySem.W.nsIn K NP "kind"=Α none)(y2:PySem.W.nsIn K NP "line"=Α none)(y3:∃f fd,PySem.W.nsIn K NP "__init__"=Α Âr/\PySem.W.isFn K ď=true/\br K "__init__" "NoPlate.__init__" Mi f fd)(nz:PySem.W.findCls K (.type "Exception") (.type "type") "__init__"=Α (.val (.builtin "Exception.__init__")))(QO:Ci K "FRONT" 0)(Jk:Ci K "BEHIND" 1)(Jl:Ci K "CELLS" 16)(Jm:Ci K "ROW" 4)(QP:Ci K "MOST_BYTES" 65536)(Jn:Ci K "LINE_END" 10)(zO:Ci K "BLANK" 32)(QQ:Ci K "LONGEST_NAME" 8)(zP:Ci K "SIGN" 0)(Jo:Ci K "SAME" 1)(QR:Ci K "MOST_COPIES" 8)(QS:Ci K "MOST_SAME" 4)(QT:Ci K "MOST_SIGNS" 48)(QU:Ci K "DIGIT_ZERO" 48)(QV:Ci K "MOST_HOISTS" 4)(E4:Ci K "MOST_FLAGS" 8)(QW:Ci K "UNKNOWN_SIDE" 2)(QX:Ci K "UNSEEN_SHAPE" 3)(QY:Ci K "UNSEEN_CELL" 16)(Jp:Ci K "SIDE_LINE" 0)(Jq:Ci K "HOIST_LINE" 1)(QZ:Ci K "SHAPE_LINE" 2)(Q0:Ci K "CELLS_LINE" 3)(Q1:Ci K "NO_SUCH_LINE" 1)(Q3:Ci K "WRONG_PLACE" 2)(Q4:Ci K "TITLE_LINES" 2)(Q5:Ci K "MOST_ENTRIES" 2048)(Q6:Ci K "LONGEST_MEANING" 64)(Q7:Ci K "FULL_STOP" 46)(Q8:Ci K "LAST_PRINTED" 126)(Q9:Ci K "MOST_IN_DOUBT" 1024)(Ra:Ci K "MOST_FLAGS_ASKED" 12)(Rb:Ci K "MOST_READINGS_ASKED" 64)(Rc:Ct K "COLOUR_SIGNS" "0123456789abcdef")(Re:Ct K "NAME_SIGNS" "ABCDEFGHIJKLMNOPQRSTUVWXYZ0123456789")(Rf:Ct K "SEEN_SIGNS" "0123456789abcdef?")(Rg:Tu K "SHAPES" ((["square","tails","long"]:LS).M V.str))(Rh:Tu K "ROLES" ((["sign","same","answer"]:LS).M V.str))(Ri:Tu K "SIDES" ((["front","behind","unknown"]:LS).M V.str))(Rj:Tu K "HOIST_LINES" ((["hoist","hoist above","hoist below","hoist above below"]:LS).M V.str))(Rk:Tu K "SEEN_SHAPES" ((["square","tails","long","shape?"]:LS).M V.str))(Rl:Tu K "WORDS_OF_ROLES" [.int 5,.int 5,.int 4])(Rm:Ab K "ord")(J:Ab K "enumerate")(U:Ab K "all")(E5:Ab K "any")(j:Ab K "len")(O:Ab K "range")(E6:Ab K "sum")(Jr:Ab K "dict")(Rn:Ab K "zip")(BN:Ab K "list")(E7:Ab K "max")(E8:Ab K "min")(Js:Ab K "tuple")(Ro:Ab K "Exception")(aM:PySem.W.nsIn K mainGlobals "ask"=Α (some (.ref fM))) (lM:K.Q fM=Α ⟨ocM,odM,.func (PySem.W.fnOf "ask" "ask" (vd AK) (pz AK) (ba AK) .none kVM dcM pmM anM (.ref cM) ctM),slM⟩) (oM:PySem.W.codeIn K (.ref cM) "ask"=true) (kM:PySem.W.keepIn K (.ref fM)=true)(lC:K.Q cM=Α ⟨.type "code",odC,.fields #[v0,v1,v2,v3,v4,v5,v6,.int fl tf,v8,.bool bb,.int tx tt,.ref TM,yQ,LD,LF,LG,LH,LJ,.str xs ts],slC⟩) (neM:(cM==TM)=false) (nT:K.Q TM=Β) (nd:[CN,CB,o6,CT].Nodup) (NC:[C1,C2,C3,C4].Nodup):
  ∃(fd:FD)(o:Obj)(c T:Addr),K.Q fa=Α o/\o.data=.func fd/\fd.code=.ref c/\Lo K c T/\K.Q T=Β/\(∀(s:Sh)(Z:LV),Z.L=(["t","b","p"]:LS).L->BindsTo s fd ⟨Z,[]⟩ ((["t","b","p"]:LS).zip Z))/\
   ∀base:Heap,K.In base->base.Ns mainGlobals mg->Ds mg base->Ë 9 fa fd ["t","b","p"] (Qz K):=by
 let e:=hfa.symm.R (PySem.W.mg_of X G aM);cases e;let QO:=QO.cn X G;let Jk:=Jk.cn X G;let Jl:=Jl.cn X G;let Jm:=Jm.cn X G;let QP:=QP.cn X G;let Jn:=Jn.cn X G;let zO:=zO.cn X G;let QQ:=QQ.cn X G;let zP:=zP.cn X G;let Jo:=Jo.cn X G;let QR:=QR.cn X G;let QS:=QS.cn X G;let QT:=QT.cn X G;let QU:=QU.cn X G;let QV:=QV.cn X G;let E4:=E4.cn X G;let QW:=QW.cn X G;let QX:=QX.cn X G;let QY:=QY.cn X G;let Jp:=Jp.cn X G;let Jq:=Jq.cn X G;let QZ:=QZ.cn X G;let Q0:=Q0.cn X G;let Q1:=Q1.cn X G;let Q3:=Q3.cn X G;let Q4:=Q4.cn X G;let Q5:=Q5.cn X G;let Q6:=Q6.cn X G;let Q7:=Q7.cn X G;let Q8:=Q8.cn X G;let Q9:=Q9.cn X G;let Ra:=Ra.cn X G;let Rb:=Rb.cn X G;let Rc:=Rc.cn X G;let Re:=Re.cn X G;let Rf:=Rf.cn X G;let Rg:=Rg.tn X G;let Rh:=Rh.tn X G;let Ri:=Ri.tn X G;let Rj:=Rj.tn X G;let Rk:=Rk.tn X G;let Rl:=Rl.tn X G;let Rm:=Rm.z X G;let J:=J.z X G;let U:=U.z X G;let E5:=E5.z X G;let j:=j.z X G;let O:=O.z X G;let E6:=E6.z X G;let Jr:=Jr.z X G;let Rn:=Rn.z X G;let BN:=BN.z X G;let E7:=E7.z X G;let E8:=E8.z X G;let Js:=Js.z X G;let Ro:=Ro.z X G;let q:lx K ⟨CS,CG,CP⟩:=⟨Jj.c,EY.c,EZ.c,Jj.no Ä,Jj.no Ä,EY.no Ä,EY.no Ä,EY.no Ä,EZ.no Ä,EZ.no Ä,EZ.no Ä⟩;let M:ud K CK:=⟨Y.c,Y.no Ä,Y.no Ä,Y.no Ä,Y.no Ä,Y.no Ä,Y.no Ä⟩;let TL:LkT K CL:=⟨zN.c,zN.no Ä,zN.no Ä⟩;let XN:Ğ "NoLocker" CN NN:=⟨QG.c,arJ,PySem.W.mg_of X G QG.a,QG.k⟩;let XB:Ğ "NoBook" CB NB:=⟨QH.c,arK,PySem.W.mg_of X G QH.a,QH.k⟩;let XT:Ğ "TooMuchInDoubt" CT NT:=⟨QI.c,arL,PySem.W.mg_of X G QI.a,QI.k⟩;let XP:G7 K mg o6 NP:=⟨QN.c,⟨y1,aqi⟩,⟨y2,aqj⟩,PySem.W.mg_of X G QN.a,QN.k⟩;apply(_,_,cM,TM,lM,Á,Á,ahB lC neM,nT,λs Z hu=>.of_eq (Jg (R:=λZ=>bindArgs _ ⟨Z,[]⟩=pure (_:List (Str×Value))) (λ_ _ _=>Á) Z hu),λbase _ _ hb=>?_);let Rp:=aqz.dn P w base X G λf fd F=>ahZ F Rm;let zQ:=aqA.dn P w base X G λf fd F=>ah2 F;let(fS,yT,GS,mS,kS,bS):=id Rp;let Rq:=aqC.dn P w base X G λf fd F=>ah5 F J GS mS kS bS;let Rr:=aqD.dn P w base X G λf fd F=>ah7 F U GS mS kS bS;let(fP,Nl,GP,mP,kP,bP):=id Rr;let(uC,mC,rC):=Rc;let dCo:=aqE.dn P w base X G λf fd F=>ah9 F j mC rC GP mP kP bP;let dIN:=aqF.dn P w base X G λf fd F=>aiV F j QQ Re Rr;let dNB:=aqG.dn P w base X G λf fd F=>aiX F j zO zQ Rp dIN;let dWL:=aqB.dn P w base X G λf fd F=>aiZ F Jn zQ;let dMS:=Jj.mk' P w base X G λ_ _ _ _ _ _ _=>aB Ī (aA ĩ);let dMG:=EY.mk' P w base X G λ_ _ _ _ _ _ _=>aB Ī ϊ;let dMP:=EZ.mk' P w base X G λ_ _ _ _ _ _ _=>aB Ī ϊ;let dMK:=Y.mk' P w base X G λ_ _ _ _ _ _ _=>aB Ī (aB ĩ (aB (fk Ø ö rfl) (aB (fk Ø ę rfl) (aB (fk Ø Ãd rfl) (aA (fk Ø Ϫ rfl))))));let dML:=zN.mk' P w base X G λ_ _ _ _ _ _ _=>aB Ī (aA ĩ);let dMV:=QC.mk' P w base X G λ_ _ _ _ _ _ _=>aB Ī (aA ĩ);let dMQ:=E1.mk' P w base X G λ_ _ _ _ _ _ _=>aB Ī ϊ;let dME:=E3.mk' P w base X G λ_ _ _ _ _ _ _=>aB Ī (aA ĩ);let dMB:=QD.mk' P w base X G λ_ _ _ _ _ _ _=>aB Ī (aA ĩ);let dMR:=QE.mk' P w base X G λ_ _ _ _ _ _ _=>aB Ī ϊ;let dMF:=aaC.mk' P w base X G λ_ _ _ _ _ _ _=>aB Ī (aB ĩ (aB (fk Ø ö rfl) (aA (fk Ø ę rfl))));let dRN:=aqI.dn P w base X G λf fd F=>ai3 F XN dIN;let dRD:=aqJ.dn P w base X G λf fd F=>ai5 F j XN QU;let dRK:=aqK.dn P w base X G λf fd F=>ai8 F j XN zO Rh Rl zP Jo QS QR Rg zQ Rq dRN dRD dCo dMK;let dHT:=aqO.dn P w base X G λf fd F=>ajv F E5 J;let asa:=aqM.dn P w base X G λf fd F=>ajx F M zP;let dOr:=aqL.dn P w base X G λf fd F=>ajz F M j U J zP QT asa;let dDi:=aqN.dn P w base X G λf fd F=>ajC F M zP dHT;let dRL:=aqH.dn P w base X G λf fd F=>ajE F XN dWL dNB dRK dOr dDi dML;let asf:=aqS.dn P w base X G λf fd F=>aie F j Jm Rf Rr;let ash:=aqR.dn P w base X G λf fd F=>aif F j zO Ri zQ Rp Rq dCo;let asi:=aqQ.dn P w base X G λf fd F=>aik F J Rj Rk ash Rq asf;let Rt:=aqU.dn P w base X G λf fd F=>aiq F q;let dLC:=aqV.dn P w base X G λf fd F=>ait F q j Jl Rt;let dWh:=aqW.dn P w base X G λf fd F=>aiv F q Rt dLC;let asl:=aqT.dn P w base X G λf fd F=>aix F q j Jp Jq Q0 QV E4 Rt dLC;let asm:=aqX.dn P w base X G λf fd F=>aiF F q Jp Jq QZ dMG dMS;let(gN,V1,n1,n2,FN):=y3;let dNp:VX P w K mg base o6 NP:=⟨_,_,XP,n1,n2,aiM FN XP Ro nz,FN.binds λ_ _ _ _ _ _=>Jg λ_ _ _=>rfl⟩;let dRP:=aqP.dn P w base X G λf fd F=>aiP F q j J Jn Q1 Q3 zQ dMP dNp asi asl asm dWh;let dBh:=aqx.dn P w base X G λf fd F=>akq F Jm;let dCS:=aqy.dn P w base X G λf fd F=>akr F O Jk Jl dBh;let dSO:=aqY.dn P w base X G λf fd F=>akt (C:=⟨CS,CG,CP⟩) F M dMS dCS;let asr:=aq2.dn P w base X G λf fd F=>aku F q U J QX QY;let dKS:=aq1.dn P w base X G λf fd F=>akw F J asr;let dKA:=aq0.dn P w base X G λf fd F=>aky F q dKS;let dVO:=aqZ.dn P w base X G λf fd F=>akF F q dMV dSO dKA;let dFA:=aq5.dn P w base X G λf fd F=>akI F U J;let dHF:=aq4.dn P w base X G λf fd F=>akJ F q j E5 O dFA;let dFi:=aq3.dn P w base X G λf fd F=>akL F q QC.t U J dHF;let dBS:=aq9.dn P w base X G λf fd F=>akN F M E6 J;let dSA:=aq8.dn P w base X G λf fd F=>akQ F j O dBS;let dPO:=arc.dn P w base X G λf fd F=>akR F j;let dCI:=ard.dn P w base X G λf fd F=>akS F M E6 J;let dLa:=aq7.dn P w base X G λf fd F=>akT F M Jr;let dPf:=ara.dn P w base X G λf fd F=>ak2 F Rn;let asF:=arb.dn P w base X G λf fd F=>ak9 F E1.t j BN O E7 dMQ dPO dCI;let dHa:=ari.dn P w base X G λf fd F=>alp F E1.t J E7 E8;let dFT:=arh.dn P w base X G λf fd F=>alw F E1.t j O dHa;let asI:=arf.dn P w base X G λf fd F=>alC F J dFT;let dDT:=aq6.dn P w base X G λf fd F=>alN F M E1.t BN J E8 Jo dLa dSA dPf asF asI;let dRM:=aro.dn P w base X G λf fd F=>al0 F j U XB Q6 zO Q8 zQ;let dNu:=ark.dn P w base X G λf fd F=>al5 F M Jr Js J zP;let asL:=arn.dn P w base X G λf fd F=>al9 F j Js XB E4 Q7 zQ;let asM:=arl.dn P w base X G λf fd F=>amc F XB zO dME asL dRM;let dOB:=arp.dn P w base X G λf fd F=>amd F E3.t j U J;let dCB:=arq.dn P w base X G λf fd F=>ame F E3.t U dDT;let dRB:=arj.dn P w base X G λf fd F=>amk F XB zN.t j Q4 Q5 dWL dNB dNu asM dOB dCB dMB;let dED:=art.dn P w base X G λf fd F=>amr F q QD.t E3.t j J;let dPr:=aru.dn P w base X G λf fd F=>ams F;let dSd:=arw.dn P w base X G λf fd F=>amu F q QO Jk QW;let dAR:=arv.dn P w base X G λf fd F=>amB F;let dRe:=ars.dn P w base X G λf fd F=>amP F XT q zN.t QD.t E3.t QC.t j Q9 dED dPr dVO dSd dAR dDT dFi dMR;let dFo:=ary.dn P w base X G λf fd F=>anj (k:=⟨⟨CS,CG,CP⟩,CL,CK,fO,CE,CR,CF⟩) F dRL dRB dRP dRe dMF;let X1:Ğ "CutOff" C1 N1:=⟨QJ.c,arM,PySem.W.mg_of X G QJ.a,QJ.k⟩;let X2:Ğ "NoReading" C2 N2:=⟨QK.c,arN,PySem.W.mg_of X G QK.a,QK.k⟩;let X3:Ğ "TooMuchToAsk" C3 N3:=⟨QL.c,arO,PySem.W.mg_of X G QL.a,QL.k⟩;let X4:Ğ "NeverSettled" C4 N4:=⟨QM.c,arP,PySem.W.mg_of X G QM.a,QM.k⟩;let dMA:=QF.mk' P w base X G λ_ _ _ _ _ _ _=>aB Ī (aA ĩ);let dHo:=arH.dn P w base X G λf fd F=>apa F;let dSe:=arG.dn P w base X G λf fd F=>apb F;let dCh:=arF.dn P w base X G λf fd F=>apc F;let dDf:=arE.dn P w base X G λf fd F=>ape F QF.t E6 J;let dBF:=arA.dn P w base X G λf fd F=>apf F q j O J E4;let dFS:=arC.dn P w base X G λf fd F=>apm F q QE.t dSO;let dAp:=arB.dn P w base X G λf fd F=>apq F QE.t dMA dFS;let dDs:=arD.dn P w base X G λf fd F=>apD F QF.t J BN dDf;let dFw:=arz.dn P w base X G λf fd F=>apI F X1 X2 X3 X4 q E5 j E8 Ra Rb dBF dAp dDs dCh dSe dHo;let dNt:=arI.dn P w base X G λf fd F=>apM (k:=⟨⟨CS,CG,CP⟩,CL,CK,fO,CE,CR,CF⟩) F aaC.t zN.t X1 X2 X3 X4 NC BN dFw;let(fT,PP,LT,mT,kT,bT):=dNt;let dAn:=arx.dn P w base X G λf fd F=>anp (k:=⟨⟨CS,CG,CP⟩,CL,CK,fO,CE,CR,CF⟩) F XN XB XP XT nd j E7 QP dFo LT kT bT;exact apO (nO (st:=AK) lM oM kM) mT dAn
end HD
section
open PySem.W (Codec)
open PySem PySem.W PyProof.Rows HD
set_option maxRecDepth 100000 in
set_option maxHeartbeats 0 in
theorem PySem.Challenge.cw_halfseendesk_s06_ask_holds : PySem.Challenge.rw_halfseendesk_s06_ask.Holds := by
 refine PySem.W.holds_os (q:=kQ) (loose:=kL) (Xt:=kX) (XP:=PySem.W.XL kQ []) (Yf:=PySem.W.Hook.obs ş) (Ya:=PySem.W.Hook.val ş) (YP:=PySem.W.Hook.says ş) (N:=13806) abU (PySem.W.Hook.of ş) (PySem.W.Hook.keeps ş) (λs e=>PySem.W.xl_of s (tw.mp e).1) PySem.W.XL.keeps Ð Ð Ð (λs e=>PySem.W.recFacts_of (tw.mp e).2) PySem.W.os_shapes É É ⟨Á,Á,Á,Á,Á,by decide+kernel⟩ ⟨[.list [],.list [],.list []],by decide+kernel,by decide+kernel⟩ ?hc;let g0:(Se,kK)=(Se,kK):=by
  k_fill
  rfl
 refine L2.ahv (r:=PySem.Challenge.rw_halfseendesk_s06_ask) (k:=9) (CX:=L2.aE) (ps:=["t","b","p"]) (sp:=λK _=>Qz K) É Á Á ⟨Á,by decide,by decide⟩ (λw h Y=>PySem.W.kIn_of Y) (by kernel_rfl) ?F ?S (λ_ _ _ _ z=>z)
 case F=>
  intro w mg fa h Y KX G GJ;exact all_mk KX G GJ dfk dfk dfk dfk dfk dfk dfk dfk dfk dfk dfk dfk dfk dfk dfk dfk dfk dfk dfk dfk dfk dfk dfk dfk dfk dfk dfk dfk dfk dfk dfk dfk dfk dfk dfk dfk dfk dfk dfk dfk dfk dfk dfk dfk dfk dfk dfk dfk dfk dfk dfk dfk dfk dfk dfk dfk dfk dfk dfk dfk dfk dfk dfk dfk dfk dfk dfk dfk dfk dfk Æ Æ Æ Æ Æ Æ Æ Æ Æ Æ Æ Æ Ù (by k_is) Ù (by k_is) Ù (by k_is) Ù (by k_is) Ù (by k_is) Ù (by k_is) Ù (by k_is) Ù (by k_is) (by k_is) ⟨_,_,by k_is,by k_is,L2.nO (by k_is) (by k_is) (by k_is)⟩ (by k_is) gj gj gj gj gj gj gj gj gj gj gj gj gj gj gj gj gj gj gj gj gj gj gj gj gj gj gj gj gj gj gj gj gj ⟨_,by k_is⟩ ⟨_,by k_is⟩ ⟨_,by k_is⟩ é é é é é é ph ph ph ph ph ph ph ph ph ph ph ph ph ph
   (by k_is) (by k_is) (by k_is) (by k_is) (by k_is) Ð (by kernel_rfl) Ñ Ñ
 case S=>
  intro K T H xs a hT vz avH hx;let(t,b,p,u):=a;cases hx with
  |cons h1 h2=>
   cases h2 with
   |cons h3 h4=>
    cases h4 with
    |cons h5 h6=>
     cases h6;cases h1 with
     |lst s1 a1=>
      cases h3 with
      |lst s2 a2=>
       cases h5 with
       |lst s3 a3=>
        let e:=L2.Lq t _ a1;subst e;let e:=L2.Lq b _ a2;subst e;let e:=L2.Lq p _ a3;subst e;let q:((Codec.inLen 0 66000 t&&t.all Áw)&&((Codec.inLen 0 66000 b&&b.all Áw)&&((Codec.inLen 0 66000 p&&p.all Áw)&&true)))=true:=vz;simp only[jG] at q;let((q1,q2),(q3,q4),(q5,q6),_):=q;let t8:JM.bq t:=QB q2;let b8:JM.bq b:=QB q4;let p8:JM.bq p:=QB q6;let(m1,m2):=aqg t8 b8 p8;apply(_,_,_,t,b,p,Á,s1,s2,s3,(abI.mp q1).2,(abI.mp q3).2,(abI.mp q5).2,λx e=>aol t8 e,λm e=>aoS p8 e,λz hz H' r hr=>?_,λhz x y m e1 e2 e3=>⟨(m2 hz x y m e1 e2 e3).1,λz Ni H' r hr=>?_⟩)
        .show L2.Dw K H' _ (.list ((PyWqbada.ask t b p).M .int));rw[m1 z hz];exact .lst (L2.aa.of hr) (L2.Vk [z])
        .show L2.Dw K H' _ (.list ((PyWqbada.ask t b p).M .int));rw[(m2 hz x y m e1 e2 e3).2 z Ni];exact .lst (L2.aa.of hr) (L2.Vk _)
#print axioms PySem.Challenge.cw_halfseendesk_s06_ask_holds
end
