import PyProof.Rows.All
import PyProof.ExcClass
import PyProof.InstLoad
import PyProof.InstStoreFacts
import PyProof.ExcAttrAll.Exception
import PyProof.RaisesMany
import PyProof.Commute
import PyProof.StationsW
import PyProof.Draws
import PyProof.EnumMake
import PyProof.TupleIter
import PyProof.WalksMore
import Wide.All
import OpenK.AllK
import Wide.FinOn
import PyProof.EqAt
import PyProof.EqKinds
import PyProof.TupleCall
import KE.BitLaws
import PyProof.ExcBaseAll.Exception
import PyProof.RulesAs
import PyProof.NsDelKeeps
import PyProof.NeKinds
import KE.KDictLaws
import Open.SpecLaws
import KE.OsHead
import KE.OsGo
import PySem.Challenge.RW_halfseendesk_s07_says
import PyWqbada
set_option Elab.async false
set_option linter.all false
set_option maxRecDepth 100000
set_option maxHeartbeats 2000000
set_option bootstrap.genMatcherCode false
set_option genSizeOf false
set_option genSizeOfSpec false
set_option compiler.extract_closed false
namespace MP_
open Lean
def mI(s:String):Syntax:=mkIdent (s.splitOn "."|>.foldl (λn c=>.str n c) .anonymous)
def mN:Name->Array Syntax->Syntax:=.node .none
def mS(f:String)(l:List Syntax)(r:String)(k:Name):Syntax:=mN k #[mkAtom f,mkNullNode ((l.intersperse (mkAtom ",")).toArray),mkAtom r]
def nT:String->Name:=.str `Lean.Parser.Term
def nC:String->Name:=.str `Lean.Parser.Tactic
def mP(f:Syntax)(a:Array Syntax):Syntax:=mN (nT "app") #[f,mkNullNode a]
def mA:List Syntax->Syntax
|[x]=>x
|l=>match l.reverse with|f::a=>mP f a.toArray|_=>.missing
def mW(w:String):Syntax:=if w="_" then mN (nT "hole") #[mkAtom w] else if w="?_" then mN (nT "syntheticHole") #[mkAtom "?",mkAtom "_"] else if w.front.isDigit then Syntax.mkNumLit w else if w.front='.' then mN (nT "dotIdent") #[mkAtom ".",mI (w.drop 1).toString] else mI w
def mG:List String->List Syntax->List Syntax->List (List Syntax×List Syntax)->Syntax
|[],_,c,_=>mA c
|w::r,p,c,s=>if w="("||w="⟨"||w="[" then mG r [] [] ((p,c)::s)
 else if w="," then mG r (mA c::p) [] s
 else if w=")"||w="⟩"||w="]" then
  let l:=(if c.isEmpty then p else mA c::p).reverse
  match s with|(p,d)::s=>mG r p ((if w=")" then mA c else if w="⟩" then mS "⟨" l w (nT "anonymousCtor") else mS "[" l w `«term[_]»)::d) s|_=>.missing
 else mG r p (mW w::c) s
def mL(s:String):Syntax:=mG (((("( ) ⟨ ⟩ [ ] ,".splitOn " ").foldl (λs c=>s.replace c (" "++c++" ")) s).splitOn " ").filter (· ≠"")) [] [] []
def mT(t n:String):Option Syntax:=(t.splitOn ";").findSome? λe=>if e.startsWith (n++" ") then some (match (e.drop (n.length+1)).toString.splitOn "=>" with|[b,x]=>mN (nT "fun") #[mkAtom "fun",mN (nT "basicFun") #[mkNullNode ((b.splitOn " ").map mW).toArray,mkNullNode,mkAtom "=>",mL x]]|x=>mL (x.headD "")) else none
def tb:="Á rfl;Â aG A outer s H vs Q E hr h=>?_;Ã Inv X pins σ;Ç Dn P w K mg base aE;È model X.prog X.w;Ì a9 P w K mg base;Í ks.map aA.m;Î hc=>?_;Ð X.gw s H scope(compEnvC scope cl C X.env)fp;Ñ l.kinds.map aA.m;Ó model prog w;Ö _ _ _ _ _=>eK;Ø _ _=>rfl;Ú aD(jG hr.hd X.c(my X.c X.mU X.keep rfl X.mC));Û pv 0;Ü qe PySem.F.plainAttrs_list PySem.F.slot_list_append PySem.F.type_list_append xO;Ý b.es.map aO.row;ß ⟨Tt,_,Á,bw.of ao,Á,_,_,Á,_,_,Á,Á,Á,eM ?_⟩;à .ListComp kI[⟨tg,iter,jC,0⟩]scope pos;â .lst[];ã pv 1;ä aa K H;å a8 left;ç pv 2;ì .dK(bC V.int lacks);ï ⟨Tt,_,Á,bw.of ao,Á,_,_,Á,_,_,Á,Á,Á,?_⟩;ñ p.ak.map cw.m;ò EP X pins σ;ó ae Û ag;ô dm sames;õ starEach es X.env;ö excClassObj nm q C N bs bm true sn sub ab col dd k0 k1 k2 k3 k5 newId;ø pv 3;ù eY rows(fZ ms rows);ú a9 X.prog X.w X.K X.mg X.base;û H' f=>?_;ü df gc Ô tL PySem.boot_len(ae ç ag);ý df gc Ô tL PySem.boot_len(ae ã ag);þ .lst(gK.map V.ref);ÿ jM.map codes;Ā cy sames;ā .ref C;Ă .ref f;ă n0 P w K mg base;Ą Dn P w K mg base;ą gv I q Ä;Ć fb X.prog X.w;ć df gc Ô tL PySem.boot_len ó;Ĉ bg Û rfl;ĉ ck.zero hD;Ċ I.ok.hd hc;ċ qe PySem.F.plainAttrs_list PySem.F.slot_list_extend PySem.F.type_list_extend Jd;Č upd H1 D â;č a7(d9(ae(i8 jE bp)ag));Ď fV P w;ď oR P w K mg base A outer s;Đ i y H' hi f=>?_;đ b hb=>?_;Ē .lst(qs.map V.ref);ē .dK kvs;Ĕ i0 x.zs bits;ĕ bo lf l s;Ė excClassObj nm q C N bs bm hdct sn sub ab col dd k0 k1 k2 k3 k5 newId;ė Flags.less1 left f;Ę eU classes;ę .inl Á;Ě PySem.W.fnOf x cQ(uz st)(i7 st)(aZ st).none kV i4 pm an aG ct;ě hd=>?_;Ĝ X.gw s3 H3 scope ce fp;ĝ fC sames.length Ā å Þ D;Ğ .ref a;ğ upd H s.heap.objs.size;Ġ jf K s₁.heap;ġ dX P w H;Ģ ⟨_,Á,?_⟩;ģ compEnvC scope cl s3.heap.objs.size X.env;Ĥ bg(cA cZ Ĉ(i8 jE bp)Ø)rfl;ĥ .ref p;Ħ cy sames b;ħ .dK(bC gA tt);Ĩ bf ms;ĩ w.map B;Ī d9 ag;ī I.ax.fresh(bU _);Ĭ .Tuple nq kk mx;ĭ xP X.N X.env.scope scope;Į lV CX P w K mg base N cQ;į s2.trans s3;İ fk Û ç rfl;ı fk Û ã rfl;Ĳ ai.refl H';ĳ ER TN.c iN Fx TN.keep GN sY rfl TN.mC;Ĵ pv 4;ĵ ae ø ag;Ķ ⟨Á,_,Á,?_⟩;ķ b z=>absurd z Ä;ĸ l.map B;Ĺ .ref s.heap.objs.size;ĺ wipe σ vs;Ļ PySem.W.instObj C s.heap.objs.size;ļ A.deeper(envOfC cQ(aZ st)s.heap.objs.size f aG);Ľ σ.set i(some v);ľ bj JM.iF line;Ŀ bj JM.iE line;ŀ bg ã rfl;Ł mh X pins;ł Binds X.K fd ps;Ń sames.getD i 0;ń sames.getD b 0;Ņ qU C h.objs.size;ņ past.map bY;Ň kp p hp;ň fZ ms rows;ŉ aD(jG hr.hd X.c(my X.c X.mU X.keep Á X.mC));Ŋ a8(jB ms);ŋ .lst(iv l);Ō .int 0;ō putK kvs k;Ŏ i x Tt H' hi f hT=>?_;ŏ ws.getD 1[];Ő upd H1 pl þ;ő iv p.classes;Œ df gc Ô tL PySem.boot_len(ae(bg ã Á)ag);œ j6 K mg;Ŕ exc C none .none x;ŕ Builtin.bitAnd i j;Ŗ bg Û Á;ŗ ay 3;Ř ae ã ag;ř ae(cA cZ ã bp Ø)ag;Ś PySem.W.kHook kK kA kE;ś ay 2;Ŝ .dK(bC gI(gD y.m.flatten));ŝ y=>PyData.eqv(dataOf(aj.zip ds)y)dx;Ş b o nb nf g=>?_;ş ms.map(pb classes d);Š ae(bg ç rfl)ag;š .ref x;Ţ .int 1;ţ codes x;Ť h1=>?_;ť ub.map codes;Ŧ ns.map V.int;ŧ ae ç ag;Ũ ae(pv 5)ag;ũ bw K H;Ū upd H a;ū bc L.pl T.cP T.nZ;Ŭ w hw=>Bs rx fx r fs w É;ŭ ent(rawInt L)T;Ů .ref T;ů upd(Ū(exc C od Ů a))T ŭ;Ű refusal t b;ű pd CK H pk;Ų je X.env.cells scope.names;ų ⟨Á,?_⟩;Ŵ ⟨_,Á,Á,_,Á,?_⟩;ŵ y.m.take i;Ŷ y.m.map List.length;ŷ vs.map toV;Ÿ start N vs;Ź oG ms rows;ź ng Ñ p.m;Ż ig K;ż envOfC cQ scope s.heap.objs.size f cd;Ž ai.refl H;ž ae(cf cB)ag;ſ aD(a7 qW);ϊ aB İ(aD(fk Û ø rfl));ϋ .lst(iv(nv x.ns));ό .cz od ì;ύ .bool(lexLt ns ms);ώ .Name x p;Ϗ wpAny M A;ϐ mi qR rfl;ϑ .cz od u;ϒ .builtin id;ϓ ay 1;ϔ ay 0;ϕ lV aE P w K mg base;ϖ b o hb e=>eb b o hb e;ϗ u5.map codes;Ϙ ms.getD i fu;ϙ ft(iB(c9 e)(I.ok.xy x c Iy hc));Ϛ eval e X.env;ϛ b.map B;Ϝ .lst(iv(line.take j));ϝ .ins C dx fs;Ϟ .Compare a[op][b]pos;ϟ upd H l;Ϡ upd H T;ϡ HT.lexLt ns ms;Ϣ PE X e;ϣ PE X a;Ϥ xs.map PyData.int;ϥ upd H' Tt;Ϧ o4 H H' p;ϧ qG ms m.classes d m.ak;Ϩ ae Ĵ ag;ϩ I.base.free b o e n hx;Ϫ .cz o ē;ϫ E5 cQ scope s.heap.objs.size f cd;Ϭ jz x.zs p.fY bits;ϭ gJ K C;Ϯ Inv X pins σ' H';ϯ e K q=>?_;ϰ xY hr.units;ϱ v.gs.map cg.m;ϲ t.map B;ϳ sm b;ϴ PySem.mem_of_lookup e;ϵ ⟨_,Á,Á,_,Á,ite_yes Á ?_⟩;϶ keywordEach[]X.env;Ϸ iB(c9 e)I.ok.above;ϸ Flags.lacks left(l.map ô)s;Ϲ .lst(iv(nv sames));Ϻ .Name x pos;Àa b hb u hu=>?_;Àb oE sames left;Àc fJ X.prog X.w;Àd dX X.prog X.w;Àe _ _ p=>Bool.noConfusion p;Àf Į scope f aG A outer s H E;Àg ws.getD 0[];Àh importedModules P.main.body;Ài .tup xs;Àj .lst xs;Àk vK I hg hm;Àl ps.zip us;Àm model P w;Àn Dr L ms classes;Ào y hy=>?_;Àp z.m.take i;Àq eF p.eJ sg⟨D,Ĕ same⟩;Àr cA cZ ç bp Ø;Às .ref y.a;Àt .ref D;Àu .error e;Àv .dK[];Àw compEnvC scope cl C X.env;Àx I.base.keep b o e n hb hx;Ày fJ P w H h a;Àz aa X.K H;Áa zA hr.units;Áb upd H2 D â;Ác s1.trans s2;Ád past.map l9;Áe p.map B;Áf nv(List.range G);Ág fs.lookup f;Áh aZ st;Ái Codec.inInt 0 255;Áj upd H x;Ák bu K x cQ st f;Ál eO C p;Ám compareOp .Eq;Án .ref r;Áo jd K H;Áp ⟨?_,?_⟩;Áq i v Tt H' hi f hT=>?_;Ár h2=>?_;Ás _ _ _ _ _=>dw 8 pz.nd;Át r.map ô;Áu hZ rows x;Áv compareOp .NotEq;Áw .int i t;Áx ⟨I1.fO,?_⟩;Áy x hx=>?_;Áz l x ih=>?_;Âa c v hc q=>k c v ?_ q;Âb upd H0 pl ό;Âc t.map cont;Âd some Ă;Âe ps.map V.ref;Âf kC CE e;Âg fX.zero hD;Âh es.map aO.gH;Âi cA cZ ã(i8 jE bp)Ø;Âj bo å Þ s;Âk aD(a7 y4);Âl PySem.mem_of_lookup hy;Âm Ay(i7 qv);Ân .lst ys;Âo .ins C dx[];Âp i H' hi f=>?_;Âq .tup(k.map kV);Âr qU C s.heap.objs.size;Âs i=>bs.getD i false;Ât b o e nb=>?_;Âu some u;Âv lu Ô tE ó;Âw kHook kK kA kE;Âx h pins s σ H Q I hw;Ây fb P w;Âz dec lf s;Ãa bq ŗ dQ;Ãb TP X pins σ Q;Ãc PySem.W.instObj C dx;Ãd .ref p.a;Ãe .int i;Ãf .Constant .none j jU;Ãg some[];Ãh iv part;Ãi .ref it;Ãj .dT kvs;Ãk b=>sames.getD b 0;Ãl _ v x _=>?_;Ãm es.map aO.row;Ãn b=>qt.contains b;Ão b=>ly.contains b;Ãp _=>aD č;Ãq _ _ _ _=>trivial;Ãr upd H' d u;Ãs tp CL CK l;Ãt some v;Ãu pv 6;Ãv name.map B;Ãw m5 rows ň;Ãx ck.zero cK;Ãy ay 4;Ãz I1.ax.fresh(bU _);Äa I.BE hd mu;Äb .lst(iv(nv row));Äc l s ih=>?_;Äd iV=>?_;Äe b v _ q=>q;Äf _=>rfl;Äg _ _=>False;Äh _ _ _ _ _=>pv 2;Äi upd H1 c(nW c o);Äj upd H0 d Àv;Äk tC Ō;Äl setAttr š name v;Äm rQ Ê;Än qs.map V.ref;Äo pv 5;Äp ms.map PyData.int;Äq looseW kQ kL;Är jy Í y.m.flatten;Äs g i j;Ät eval o X.env;Äu eV Û;Äv eQ q hn;Äw dec å s;Äx compareOp op;Äy ae Ī ag;Äz ae Ĉ ag;Åa Bk X pins σ tg R;Åb .ref z.a;Åc .ref lb;Åd .ref la;Åe .int 32;Åf fb prog w;Åg dec lf ϳ;Åh Builtin.bitNot i;Åi .ref l;Åj .own x;Åk .cz vg ħ;Ål upd H e1 â;Åm tC Ţ;Ån s1.trans s3;Åo p.eJ.map gU;Åp ls.map eN.m;Åq i7 st;År d8 aU;Ås b.ns.take j;Åt SP X pins D;Åu b o e=>dq _ e;Åv pv 7;Åw places.getD i 0;Åx nY p;Åy gB C;Åz cA zi Ãu bp Ø;Æa .dK(uP[]kvs);Æb qF CV v;Æc nW cx o;Æd jX D Nx;Æe iv line;Æf c.map B;Æg .tup ys;Æh q hq=>?_;Æi m hm=>?_;Æj b o nb g=>?_;Æk H3 f=>?_;Æl H2 f=>?_;Æm upd H d ϑ;Æn uE s₁.heap H;Æo s1.free hx;Æp rawInt L;Æq pB ms rows;Ær nI(qX ç);Æs lX x;Æt l.map ô;Æu hb 0 v0 Å rfl;Æv gB C g;Æw eY y.m z.m;Æx eX y;Æy eV ã;Æz cf cS;Ça cA cZ Û bp Ø;Çb bo lf Þ s;Çc bX r ta tb;Çd aD(a7 ç);Çe aD(a7 ã);Çf Or.inl rfl;Çg L.getD b 0;Çh K w.params;Çi I1.ax.fresh iT;Çj I.k8 x c e;Çk .tup[x,y];Çl .str x;Çm .ref q;Çn .ref b.a;Ço .lst o;Çp .dT(rH[]ts);Çq y.m.getD i[];Çr tupleKind Ây;Çs iv(nv e.row);Çt exc C od Ů a;Çu compareOp .Lt;Çv .tup[kV k,v];Çw topStub P;Çx t7 p.side;Çy ns.take i;Çz ms.map rO;Èa iv(nv l);Èb ft(c9 e);Èc e.trans z;Èd cy Ĩ;Èe bI hb;Èf aK he;Èg .cz od Ŝ;Èh .Name g p;Èi ⟨t1,t2,?_⟩;Èj j q' e=>?_;Èk yb.map codes;Èl xs.map V.int;Èm upd H2 d Åk;Èn upd H' pl ì;Èo tupleKind Ć;Èp n.map B;Èq ms.getD f fu;Èr eU m.classes;Ès bq(ay 5)dQ;Èt bo lf Þ s g;Èu ay 7;Èv List.range n;Èw .ref e;Èx .ref d;Èy .ref ap;Èz .inr Á;Éa .cz o u"
def mX(x:Syntax)(a:Array Syntax):MacroM Syntax:=let n:=x.getId.toString;if n.front.toNat>191 then match mT tb n with
|some s=>pure (if a.isEmpty then s else if s.isOfKind (nT "app") then mP s[0] (s[1].getArgs++a) else mP s a)
|_=>Macro.throwUnsupported else Macro.throwUnsupported
def mM(p:Syntax):Syntax:=mN (nC "rcasesPatMed") #[mkNullNode #[p]]
def mE(x:Syntax):Array Syntax:=if x.isOfKind (nT "tuple") then #[x[1][0],mkAtom ","]++x[1][2].getArgs else x[1].getArgs
def mD(x:Syntax):Syntax:=if x.isOfKind (nT "tuple") then mN (nT "anonymousCtor") #[mkAtom "⟨",mkNullNode (mE x),mkAtom "⟩"] else x
def mC:Nat->Syntax->Syntax
|0,x=>x
|n+1,x=>let k s a:=mN (.str (nC "rcasesPat") s) a;if x.isIdent then k "one" #[x] else if x.getArgs.size<2 then k "ignore" #[x[0]] else k "tuple" #[mkAtom "⟨",mkNullNode ((mE x).map λy=>if y.isAtom then y else mN (nC "rcasesPatLo") #[mM (mC n y),mkNullNode]),mkAtom "⟩"]
def mK(s a:String)(x:Syntax):MacroM Syntax:=pure ((x.setKind (nC s)).setArg 0 (mkAtom a))
def mH:Nat->Syntax->Bool
|0,_=>false
|n+1,x=>x.isOfKind (nT "syntheticHole")||x.getArgs.any (mH n)
end MP_
local macro_rules(kind:=ident)|x=>MP_.mX x #[]
local macro_rules(kind:=Lean.Parser.Term.app)|x=>MP_.mX x[0] x[1].getArgs
local macro_rules(kind:=Lean.Parser.Tactic.tacticLet__)|x=>let d:=x[2][0];if d.isOfKind (MP_.nT "letPatDecl") then pure (MP_.mN (MP_.nC "obtain") #[Lean.mkAtom "obtain",Lean.mkNullNode #[MP_.mM (MP_.mC 9 d[0])],Lean.mkNullNode,Lean.mkNullNode #[Lean.mkAtom ":=",Lean.mkNullNode #[d[4]]]]) else MP_.mK "tacticHave__" "have" x
local macro_rules(kind:=Lean.Parser.Tactic.apply)|x=>if MP_.mH 99 x then MP_.mK "refine" "refine" (x.setArg 1 (MP_.mD x[1])) else Lean.Macro.throwUnsupported
local macro_rules(kind:=Lean.Parser.Tactic.delta)|x=>MP_.mK "unfold" "unfold" x
local macro_rules|`(tactic|symm)=>`(tactic|simp_all)
local macro_rules(kind:=Lean.Parser.Tactic.exact)|x=>if x[1].isOfKind (MP_.nT "tuple") then pure (x.setArg 1 (MP_.mD x[1])) else Lean.Macro.throwUnsupported
set_option hygiene false
local macro_rules
|`(Ä)=>`(by simp)
|`(Å)=>`(by omega)
|`(Æ)=>`(⟨by k_is,⟨_,_,⟨by k_is,by k_is,by k_is,by k_is⟩,L2.nU (by k_is) (by k_is) (by k_is)⟩,⟨by k_is,by k_is,by k_is,by k_is⟩,by kernel_rfl⟩)
|`(É)=>`(by simp_all)
|`(Ê)=>`(by decide+kernel)
|`(Ë)=>`(c8 (by kernel_rfl))
|`(Ï)=>`(s.heap.objs.size+1)
|`(Ô)=>`(by rfl)
|`(Ù)=>`(by decide)
|`(Þ)=>`((s,B)::r)
|`(á)=>`(⟨_,_,_,_,_,by k_is,by k_is,by decide,by repeat' constructor⟩)
|`(æ)=>`(upd (upd (upd H T0 (ent .none T0)) a (exc C od (.ref T) a)) T (ent (rawInt L) T))
|`(è)=>`(⟨by k_is,⟨Ds (by k_is) (by k_is) Ä,by k_is,by k_is,by k_is⟩,by k_is⟩)
|`(é)=>`(cellsFrom (s3.heap.objs.size+1) scope.names (je X.env.cells scope.names []))
|`(ê)=>`((·.map B))
|`(í)=>`(⟨rfl,rfl,rfl,by decide+kernel,rfl,by decide+kernel,by decide+kernel⟩)
|`(î)=>`(⟨λi m σ H=>m=xs.length-i/\i<=xs.length/\Pv i σ H,⟨xs.length,by simp,dv _,h0⟩,?_⟩)
|`(À $x)=>`(by simpa using $x)
local macro_rules
|`(tactic|show Ò)=>`(tactic|intro pins s σ H Q I h)
|`(tactic|show Õ)=>`(tactic|intro X hP hw hK hc i pins s σ H E I hf st hg)
|`(tactic|show ë)=>`(tactic|obtain⟨f0,f1,f2,f3,f4,f5⟩:=hf it Ä)
|`(tactic|show ð)=>`(tactic|intro pins s σ H x y v u Q I rx ry h)
namespace A_
def af:=@if_pos
def ah:=@if_neg
def az:=@List.length_map
def aI:=@Option.some.inj
def aP:=@List.mem_cons_of_mem
def aQ:=@PySem.wpAny_bind
def aX:=@List.map_cons
def a0:=@List.mem_cons
def bz:=@List.getElem?_map
def bH:=@List.getElem?_eq_some_iff
def bI:=@List.mem_of_getElem?
def bU:=@Nat.le_refl
def bZ:=@List.map_append
def cb:=@List.mem_map
def cJ:=@congrArg
def cV:=@List.map_map
def cY:=@List.getElem?_eq_getElem
def c9:=@PySem.Heap.lt_size
def dc:=@List.length_cons
def di:=@PySem.wpAny_pure
def dq:=@PySem.Heap.get?_push_of_some
def dv:=@Nat.zero_le
def d8:=@Ne.symm
def eC:=@Bool.false_ne_true
def eP:=@decide_eq_true
def ft:=@Nat.ne_of_lt
def fG:=@List.mem_cons_self
def f7:=@decide_eq_false
def gQ:=@List.mem_append
def gX:=@List.sum_cons
def ia:=@Nat.le_trans
def ib:=@List.length_range
def iq:=@PySem.Heap.get?_push_size
def iB:=@Nat.lt_of_lt_of_le
def iC:=@List.getD_eq_getElem?_getD
def iU:=@Bool.and_eq_true
def i6:=@PySem.wpAny_mono
def jm:=@PySem.wpAny_loadPart'
def jV:=@List.append_nil
def kJ:=@List.mem_filter
def kO:=@List.nodup_cons
def kU:=@List.all_eq_true
def kW:=@List.find?_cons
def kY:=@List.map_congr_left
def kZ:=@List.mem_flatMap
def lI:=@Bool.false_and
def lJ:=@List.length_append
def lK:=@List.map_nil
def lL:=@decide_eq_true_eq
def lN:=@List.take_length
def lO:=@List.not_mem_nil
def lQ:=@or_false
def ma:=@Bool.true_and
def nr:=@List.length_take
def nu:=@List.mem_singleton
def pN:=@Nat.le_of_lt
def pO:=@Bool.eq_iff_iff
def pP:=@Nat.lt_of_le_of_lt
def pQ:=@List.getElem_of_mem
def qP:=@PySem.Heap.size_push
def qQ:=@Nat.lt_irrefl
def qR:=@PySem.PassesOwn.never
def sk:=@List.length_nil
def so:=@List.all_cons
def sr:=@List.all_map
def su:=@of_decide_eq_true
def sv:=@List.append_assoc
def sy:=@Bool.and_eq_true_iff
def uo:=@PySem.wpAny_loadPart_at
def uq:=@Nat.ne_of_gt
def ur:=@PySem.wpAny_truthy_bool
def uu:=@List.mem_append_right
def uv:=@beq_iff_eq
def uw:=@List.size_toArray
def ux:=@List.any_cons
def vz:=@PySem.codeAny_mono
def vA:=@PySem.Obj.data_mapFields
def vB:=@PySem.wpAny_field
def vC:=@List.lookup_cons
def vD:=@List.any_eq_true
def xl:=@PySem.sizeLine_eq
def xm:=@Array.length_toList
def xn:=@beq_eq_false_iff_ne
def xo:=@PySem.wpAny_Call_Name_kw
def xp:=@List.getElem?_eq_none
def xq:=@Nat.zero_add
def xt:=@List.ext_getElem?
def xu:=@List.filter_cons
def yP:=@Option.map_eq_some_iff
def yQ:=@Bool.and_false
def yR:=@PyProof.Rows.boot_all
def yS:=@List.filter_map
def yT:=@List.nil_append
def AQ:=@List.contains_cons
def AR:=@PySem.wpAny_call
def AS:=@PySem.Heap.get?_update_other
def AU:=@Array.getElem?_eq_some_iff
def AV:=@List.mem_range
def AW:=@List.mem_append_left
def AX:=@PySem.wpAny_passesOwn
def AY:=@List.take_of_length_le
def AZ:=@List.getLast?_append
def A0:=@List.flatMap_append
def A1:=@List.dropLast_subset
def A2:=@decide_eq_false_iff_not
def A3:=@List.nodup_nil
def A4:=@List.filter_cons_of_pos
def A5:=@List.filter_cons_of_neg
def DE:=@PySem.wpAny_setField
def DF:=@Nat.le_of_eq
def DG:=@PySem.Heap.get?_update_self
def DH:=@Int.toNat_natCast
def DI:=@List.filterMap_cons
def DJ:=@PySem.wpAny_execs_nil
def DK:=@PyProof.Rows.callWith_type1
def DL:=@PySem.Calls.spliced_cons
def DM:=@List.of_mem_zip
def DN:=@List.zip_cons_cons
def DO:=@List.range_succ_eq_map
def DP:=@Option.isSome_map
def DQ:=@PySem.tupleKind_room_in1
def DR:=@PySem.call_meetsIn
def DS:=@List.mem_of_getLast?
def DT:=@List.filter_append
def DU:=@List.flatMap_cons
def DV:=@List.foldl_cons
def DW:=@List.contains_iff_mem
def DX:=@Nat.testBit_and
def DY:=@Nat.testBit_lt_two_pow
def DZ:=@Option.bind_some
def HI:=@PySem.Obj.isFreed_of_fields
def HJ:=@List.mem_filterMap
def HK:=@Option.isSome_iff_exists
def HL:=@List.getElem?_append_left
def HM:=@PySem.Calls.callWith_builtin
def HN:=@PySem.call_meets
def HP:=@Option.map_some
def HQ:=@Nat.lt_trans
def HR:=@PySem.wpAny_Call_method
def HS:=@PySem.plainId_quiet
def HU:=@List.mapM_cons
def HV:=@List.mem_of_mem_take
def HW:=@List.take_append_drop
def HX:=@List.getLast?_singleton
def HY:=@List.length_filter_le
def HZ:=@List.range_succ
def Ia:=@List.pairwise_cons
def Ib:=@Int.natCast_nonneg
def Ic:=@Nat.pow_le_pow_right
def Ie:=@List.getElem?_zip_eq_some
def Ig:=@Int.le_refl
def Pl:=@PySem.wpAny_isSubtype_exc
def Pn:=@PySem.wpAny_newObj_type
def Po:=@PySem.F.slot_tuple_iterator_next
def Pp:=@PySem.Heap.get?_none_of_le
def Pq:=@PyProof.Rows.Constant_none
def Pt:=@PySem.wpAny_execs_cons
def Pu:=@PySem.Calls.spliced_nil
def Pw:=@List.getElem?_append_right
def Px:=@PySem.richCompare_meets_room
def Py:=@if_true
def Pz:=@PySem.Calls.evalArgs_plain
def PB:=@List.any_map
def PD:=@PySem.pushCells_keeps
def PF:=@Nat.le_of_succ_le
def PJ:=@Nat.lt_succ_of_lt
def PK:=@PySem.wpAny_standAt
def PL:=@Bool.or_eq_true
def PM:=@Bool.false_or
def PN:=@PySem.codeAny_builtin
def PP:=@PySem.Around.under_plainId
def PQ:=@PySem.wpAny_pyIter_enum
def PR:=@Bool.and_self
def PU:=@PySem.SeqAt.canLay_of_shaped
def PV:=@List.nodup_append
def PY:=@List.length_eq_zero_iff
def PZ:=@List.map_drop
def P0:=@List.take_succ_cons
def P1:=@List.findIdx?_eq_some_iff_getElem
def P2:=@List.mem_map_of_mem
def P3:=@Nat.pow_succ
def P4:=@List.getElem?_range
def P5:=@Bool.and_true
def P6:=@List.pairwise_map
def P7:=@List.flatten_cons
def P8:=@List.foldl_append
def P9:=@Classical.byContradiction
def Qa:=@Bool.not_not
def Qb:=@decide_eq_true_iff
def YA:=@PySem.wpAny_typeLookup_exc
def YB:=@PySem.wpAny_holding
def YC:=@Bool.or_true
def YD:=@PySem.wpAny_seqItems
def YE:=@PySem.Obj.cls_mapFields
def YG:=@PySem.wpAny_pyIter_tuple
def YH:=@List.getElem_inj
def YI:=@List.getElem?_set_self
def YJ:=@List.getElem?_set_ne
def YL:=@PySem.wpAny_pyIter_list
def YN:=@Nat.lt_succ_self
def YO:=@PySem.plainObj_wpAny_Assign_Attribute
def YQ:=@Nat.le_succ
def YR:=@List.getElem?_take_of_lt
def YT:=@List.length_drop
def YU:=@Array.getElem?_toList
def YV:=@List.length_dropLast
def YW:=@PySem.Heap.DictOf.new
def YX:=@Nat.add_le_add_left
def YY:=@List.getElem?_drop
def YZ:=@Nat.add_zero
def Y0:=@Nat.lt_of_not_le
def Y1:=@Int.toNat_of_nonneg
def Y2:=@List.mem_of_mem_drop
def Y3:=@beq_self_eq_true
def Y4:=@List.findIdx?_cons
def Y5:=@List.exists_cons_of_length_eq_add_one
def Y6:=@Nat.succ.inj
def Y7:=@List.take_zero
def Y8:=@List.filterMap_append
def Y9:=@List.zip_append
def Za:=@Int.zero_add
def Zb:=@List.drop_eq_nil_of_le
def Zc:=@List.zip_map_right
def Zd:=@decide_eq_decide
def Ze:=@List.find?_cons_of_neg
def Zf:=@List.nodup_range
def Zg:=@List.filter_congr
def Zh:=@PySem.W.Codec.inNat_iff
def apO:=@PySem.F.entry_tuple_iterator_next
def apP:=@PySem.F.args_tuple_iterator_next_1
def apV:=@PySem.Calls.Name_function_global
def ap7:=@PySem.wpAny_newFunctionEnv_cells
def ap8:=@PyProof.Rows.callWith_builtin1
def aqa:=@PySem.AutoSeq1.sub_tuple_tuple
def aqd:=@Option.isSome_some
def aqe:=@Array.getElem?_eq_none
def aqg:=@List.getElem?_cons_zero
def aqh:=@List.getElem?_cons_succ
def aql:=@PySem.wpAny_letOwnedTupleGo_enum
def aqn:=@of_decide_eq_false
def aqp:=@List.getElem_range
def aqr:=@List.getLast?_eq_none_iff
def aqt:=@Function.comp_apply
def aqu:=@List.filter_eq_nil_iff
def aqv:=@List.pairwise_filter
def aqx:=@List.Sublist.nodup
def aqy:=@List.getElem?_eq_none_iff
def aqz:=@List.length_singleton
def aqB:=@Nat.eq_of_testBit_eq
def aqC:=@Nat.testBit_two_pow_self
def aqD:=@Classical.not_forall
def aqE:=@List.mem_eraseDups
def aqF:=@Nat.testBit_two_pow_add_gt
def aqG:=@Nat.testBit_two_pow_add_eq
def aqH:=@List.find?_cons_of_pos
def aqI:=@Nat.pos_of_ne_zero
def aqJ:=@List.filter_sublist
def aqK:=@List.findIdx?_eq_none_iff
def aqL:=@List.dropLast_concat
def aqM:=@Nat.lt_or_eq_of_le
end A_
open A_
section
namespace OH
open PySem PySem.Calls PySem.W PyProof.Rows
def runT(j:String->Option Builtin)(P:Program)(W:World)(m:Nat)(F:Option Value):Nat->SharedT->Thread->Option SharedT
 |0,_,_=>none
 |k+1,x,y=>match through y with
  |true=>some x
  |false=>match stepOk m F y with
   |false=>none
   |true=>match stepT (denote j) P W x y with
    |some z=>runT j P W m F k z.1 z.2
    |none=>none
theorem Zi{j:String->Option Builtin}{P:Program}{W:World}{m:Nat}{F:Option Value}:∀(k:Nat)(x z:SharedT)(y:Thread),runT j P W m F k x y=some z->topRun j P W m F k x.abs y=some z.abs:=by
 intro k;induction k with
 |zero=>intro x z y h;cases h
 |succ k I=>
  intro x z y h;delta runT at h;delta topRun;cases e1:through y with
  |true=>
   rw[e1] at h;cases h;rfl
  |false=>
   rw[e1] at h;cases e2:stepOk m F y with
   |false=>rw[e2] at h;cases h
   |true=>
    rw[e2] at h;dsimp only at h⊢;cases e3:stepT (denote j) P W x y with
    |none=>rw[e3] at h;cases h
    |some v=>
     rw[e3] at h;rw[stepT_spec (s':=v.1) (t':=v.2) e3];exact I _ _ _ h
def treeOf(l:List Obj):BT:=(l.foldl (λ(x:BT×Nat)o=>(x.1.ins x.2 o,x.2+1)) (.nil,0)).1
noncomputable def startT (W:World) (O:OsState):SharedT:=⟨treeOf (boot_heap W.params).objs.toList,(boot_heap W.params).objs.toList.length,(boot_heap W.params).life,Array.mk [],boot_drawn,boot_toks,O⟩
noncomputable def yU (W:World) (O:OsState):Shared:=⟨boot_heap W.params,Array.mk [],boot_drawn,boot_toks,O⟩
def Zj(W:World)(O:OsState):(startT W O).abs=yU W O:=by
 kernel_rfl
noncomputable def keptAt (P:Program) (W:World) (x:Shared):Bool:=staticsOk Àh (boot_heap W.params) x.heap&&namesBound P x.heap&&gensDone x&&laidKept (boot_heap W.params) x.heap
noncomputable def looksAt (P Q:Program) (lo:List Str) (Xt:Shared->Bool) {α:Type} (Yf:Shared->α) (W:World) (x:Shared):=
 (keptAt P W x,openSeen Q lo Àh Xt true x,Yf x)
def Zk{P:Program}{W:World}{N m:Nat}{j:Option Value}{O:OsState}{z:Shared}(S:((boot_heap W.params).isNs mainGlobals,(boot_heap W.params).objs.size,(boot_heap W.params).nsMap mainGlobals "__annotations__")=(true,m,j))(run:topRun treeTable P W m j N (yU W O) Çw=some z) (kept:keptAt P W z=true):topFrom treeTable P W N (yU W O)=some z:=by
 let F:(boot_heap W.params).isNs mainGlobals=true:=cJ Prod.fst S;let G:(boot_heap W.params).objs.size=m:=cJ (λx=>x.2.1) S;let I:(boot_heap W.params).nsMap mainGlobals "__annotations__"=j:=cJ (λx=>x.2.2) S;subst G;subst I;let g:((yU W O).heap.isNs mainGlobals&&(yU W O).gens.size==0)=true:=by
  show((boot_heap W.params).isNs mainGlobals&&true)=true;rw[F];rfl
 delta topFrom;rw[g];show(topRun treeTable P W (boot_heap W.params).objs.size ((boot_heap W.params).nsMap mainGlobals "__annotations__") N (yU W O) Çw).bind _=some z;rw[run];show(match keptAt P W z with|true=>some z|false=>none)=some z;rw[kept]
def Zl{P Q:Program}{lo:List Str}{Xt:Shared->Bool}{α:Type}{Yf:Shared->α}{Ya:World->α}{N:Nat}{m:Nat}{j:Option Value}{M:Nat}(e:opening P=plainProg P.main.scope.names) (Z:Nat.ble 600 N=true) (f:∀s,fenceModules? P s=some s)(S:∀W:World,((boot_heap W.params).isNs mainGlobals,(boot_heap W.params).objs.size,(boot_heap W.params).nsMap mainGlobals "__annotations__")=(true,m,j))(le:Nat.ble M N=true)(fin:∀(W:World)(O:OsState),(runT treeTable P W m j M (startT W O) Çw).map (λs=>looksAt P Q lo Xt Yf W s.abs)=some (true,openGood Q lo,Ya W)):LeftO P Q lo Xt Yf Ya N:=by
 intro W;let((h,gs,d,k,O),o1,o2):=yP.mp (boot_open e Z f W);cases o2;let(z,r1,F):=yP.mp (fin W O);let G:=Zi _ _ _ _ r1;rw[Zj] at G;let I:=topRun_mono (N-M) _ _ _ _ G;let Y:M+(N-M)=N:=Nat.add_sub_cancel' (Nat.le_of_ble_eq_true le);rw[Y] at I;let J:keptAt P W z.abs=true:=cJ Prod.fst F;let U:(openSeen Q lo Àh Xt true z.abs,Yf z.abs)=(openGood Q lo,Ya W):=cJ Prod.snd F;let t:topFrom treeTable P W N ⟨boot_heap W.params,Array.mk [],boot_drawn,boot_toks,O⟩=some z.abs:=Zk (S W) I J;delta openEnds;rw[o1];show Option.map _ (topFrom treeTable P W N ⟨boot_heap W.params,Array.mk [],boot_drawn,boot_toks,O⟩)=_;rw[t];exact cJ some U
lay_quick OH.runT
def Zm(W:World):((boot_heap W.params).isNs mainGlobals,(boot_heap W.params).objs.size,(boot_heap W.params).nsMap mainGlobals "__annotations__")=(true,11,some (.ref 6)):=by
 kernel_rfl
def Zn{P Q:Program}{lo:List Str}{Xt:Shared->Bool}{α:Type}{Yf:Shared->α}{Ya:World->α}{N:Nat}(e:opening P=plainProg P.main.scope.names) (j:Nat.ble 600 N=true) (f:∀s,fenceModules? P s=some s)(fin:∀(W:World)(O:OsState),(PySem.W.Fast.tw1264388230241321415 PySem.W.Fast.tw14364793385576792824 P W 11 (some (.ref 6)) N (startT W O) Çw).map (λs=>looksAt P Q lo Xt Yf W s.abs)=some (true,openGood Q lo,Ya W)):LeftO P Q lo Xt Yf Ya N:=
 Zl e j f Zm (Nat.ble_eq_true_of_le (bU N)) λW O=>by
  rw[PySem.W.Fast.te1264388230241321415,PySem.W.Fast.te14364793385576792824];exact fin W O
end OH
end
section
namespace L2
open PySem PySem.Spec PyProof.Rows
def inClass(s:Stmt)(j:Nat):Stmt:=match s with
 |.ClassDef _ _ _ gV _ _ _ _ _ _ _=>gV.getD j (.Pass ⟨0,0,0,0⟩)
 |_=>.Pass ⟨0,0,0,0⟩
def uz(s:Stmt):Arguments:=match s with
 |.FunctionDef _ a _ _ _ _ _ _ _ _=>a
 |_=>{posonlyargs:=[],args:=[],vararg:=none,kwonlyargs:=[],kw_defaults:=[],kwarg:=none,defaults:=[]}
def i7(s:Stmt):List Stmt:=match s with
 |.FunctionDef _ _ b _ _ _ _ _ _ _=>b
 |_=>[]
def aZ(s:Stmt):Scope:=match s with
 |.FunctionDef _ _ _ _ _ _ sc _ _ _=>sc
 |_=>{kind:=.function,names:=[],isGenerator:=false,isCoroutine:=false}
end L2
namespace HD
open PySem PySem.Spec PyProof.Rows L2
def top(i:Nat):Stmt:=PySem.Challenge.pw_halfseendesk_s07_says.main.body.getD i (.Pass ⟨0,0,0,0⟩)
@[reducible] def kf (n q:Str) (st:Stmt) (m c:Value):Obj:=⟨.type "function",none,.func (PySem.W.fnOf n q (uz st) Åq Áh .none .none .none m none c .none),#[]⟩
@[reducible] def ke (P:Params) (x:Str) (t:Nat) (v:Value):DictEntry:=⟨PyData.keyHash P x,.str x t,v⟩
@[reducible] def kc (n q:Str) (t:Nat) (l c:Int) (r:Nat) (x y:Value) (e:Nat) (d:Nat):Obj:=⟨.type "code",none,.fields #[.str n t,.str q (t+1),.str "/claim/cut.py" (t+2),.int l 0,.int c 0,.int 0 0,.int 0 0,.int 3 0,.ref r,.bool true,.int 181 0,.ref (r+1),.none,x,y,.ref e,.int d 0,.int l 0,.str "/claim/cut.py" (d+1)],#[]⟩
@[reducible] def kd (n:Str) (t:Nat) (l c:Int) (r:Nat) (x y:Value) (e:Nat) (d:Nat):Obj:=kc n n t l c r x y e d
@[reducible] def km (t:Nat):Str:=if t=187 then "halfseendesk.looks" else if t=214 then "halfseendesk.texts" else if t=292 then "halfseendesk.lockers" else if t=470 then "halfseendesk.platetexts" else if t=712 then "halfseendesk.sights" else if t=796 then "halfseendesk.displays" else if t=904 then "halfseendesk.books" else if t=1044 then "halfseendesk.readings" else if t=1135 then "halfseendesk.tellings" else "halfseendesk.plates"
@[reducible] def kg (n:Str) (i t r:Nat):Obj:=kf n n (top i) (.str (km t) t) Án
@[reducible] def kr (P:Params) (x:Str) (t r:Nat):DictEntry:=ke P x t Án
@[reducible] def ki (P:Params) (x:Str) (v:Int) (t:Nat):DictEntry:=ke P x (t+1) (.int v t)
@[reducible] def kx (P:Params) (a m:Nat) (l:Int) (e r f:Nat):Obj:=⟨.type "dict",none,.dict #[ke P "__module__" a (.str (km m) m),ke P "__firstlineno__" (a+4) (.int l (a+3)),kr P "__init__" e r,kr P "__static_attributes__" f (r+1),kr P "__dict__" (f+2) (r+4),kr P "__weakref__" (f+4) (r+5),ke P "__doc__" (f+5) .none] 4,#[]⟩
@[reducible] def ky (P:Params) (a m:Nat) (l:Int) (r:Nat):Obj:=⟨.type "dict",none,.dict #[ke P "__module__" a (.str (km m) m),ke P "__firstlineno__" (a+4) (.int l (a+3)),kr P "__static_attributes__" (a+5) r,kr P "__weakref__" (a+7) (r+3),ke P "__doc__" (a+8) .none] 3,#[]⟩
@[reducible] def kt (n:Str) (r s t:Nat):Obj:=⟨.type "type",none,.cls ⟨n,[.type "object"],[.ref r,.type "object"],s,n,true,[],[],false,none,false⟩,#[none,none,some (.str n t),some (.str n (t+8)),some (.builtin "object.__new__"),some (.bool true)]⟩
@[reducible] def ku (n:Str) (r s x t:Nat):Obj:=⟨.type "type",none,.cls ⟨n,[.type "Exception"],[.ref r,.type "Exception",.type "BaseException",.type "object"],s,n,true,[],[],false,none,false⟩,#[some š,none,some (.str n t),some (.str n (t+8)),some (.builtin "Exception.__new__"),some (.bool true)]⟩
@[reducible] def kj (q:Str) (i t r:Nat):Obj:=kf "__init__" q (inClass (top i) 0) (.str (km t) t) Án
@[reducible] def kh (q:Str) (t:Nat) (l c:Int) (r:Nat) (x y:Value) (e:Nat) (d:Nat):Obj:=kc "__init__" q t l c r x y e d
@[reducible] def kv (n:Str) (t:Nat) (l c:Int) (r d:Nat):Obj:=kd n t l c r (.ref (r+2)) (.ref (r+3)) (r+4) d
@[reducible] def kn (n:Str) (t:Nat) (l c:Int) (r d:Nat):Obj:=kh n t l c r (.ref (r+2)) (.ref (r+3)) (r+4) d
@[reducible] def kw (n:Str) (t:Nat) (l c:Int) (r d:Nat):Obj:=kd n t l c r .none .none (r+2) d
noncomputable def kK (P:Params):PySem.W.Frag:=
 (nat_lit 3,⟨(.type "dict"),none,(.dict #[ke P "__name__" 165 (.str "halfseendesk.plates" 1169),ke P "__doc__" 166 .none,ke P "__package__" 167 .none,ke P "__loader__" 168 (.builtin "__main__.__loader__#opaque"),ke P "__spec__" 169 .none,kr P "__annotations__" 170 6,kr P "__builtins__" 171 4,ke P "__file__" 173 (.str "/claim/cut.py" 172),ke P "__cached__" 174 .none,kr P "SHAPES" 192 15,ki P "FRONT" 0 193,ki P "BEHIND" 1 195,ki P "CELLS" 16 197,ki P "ROW" 4 199,kr P "cell_behind" 207 22,kr P "cells_seen" 213 27,ki P "MOST_BYTES" 65536 216,ki P "LINE_END" 10 218,ki P "BLANK" 32 220,ke P "COLOUR_SIGNS" 223 (.str "0123456789abcdef" 222),ke P "NAME_SIGNS" 225 (.str "ABCDEFGHIJKLMNOPQRSTUVWXYZ0123456789" 224),ki P "LONGEST_NAME" 8 226,kr P "spelled" 233 32,kr P "cut" 243 39,kr P "whole_lines" 252 46,kr P "place_among" 262 53,kr P "places_in" 268 58,kr P "read_colours" 275 65,kr P "is_name" 282 72,kr P "name_behind" 291 79,ki P "SIGN" 0 294,ki P "SAME" 1 296,kr P "ROLES" 301 80,kr P "WORDS_OF_ROLES" 305 81,ki P "MOST_COPIES" 8 306,ki P "MOST_SAME" 4 308,ki P "MOST_SIGNS" 48 310,ki P "DIGIT_ZERO" 48 312,kr P "NoLocker" 333 91,kr P "Kind" 372 111,kr P "Locker" 403 132,kr P "read_locker" 409 141,kr P "read_name" 416 148,kr P "read_digit" 424 155,kr P "read_kind" 438 162,kr P "are_in_order" 444 561,kr P "are_in_order_lockers" 445 167,kr P "may_follow" 453 174,kr P "are_different" 459 179,kr P "has_twice" 465 184,ki P "MOST_HOISTS" 4 466,ki P "MOST_FLAGS" 8 468,kr P "SIDES" 475 185,ki P "UNKNOWN_SIDE" 2 476,kr P "HOIST_LINES" 482 186,kr P "SEEN_SHAPES" 487 187,ke P "SEEN_SIGNS" 489 (.str "0123456789abcdef?" 488),ki P "UNSEEN_SHAPE" 3 490,ki P "UNSEEN_CELL" 16 492,ki P "SIDE_LINE" 0 494,ki P "HOIST_LINE" 1 496,ki P "SHAPE_LINE" 2 498,ki P "CELLS_LINE" 3 500,ki P "NO_SUCH_LINE" 1 502,ki P "WRONG_PLACE" 2 504,kr P "NoPlate" 536 204,kr P "Sighting" 567 224,kr P "Glimpse" 600 245,kr P "Plate" 633 266,kr P "read_plate" 646 277,kr P "read_line" 656 284,kr P "read_side" 666 291,kr P "read_row" 673 298,kr P "may_stand" 681 305,kr P "lacks_flags" 688 312,kr P "lacks_cells" 695 319,kr P "has_whole_hoists" 702 326,kr P "put" 711 333,kr P "sighting_of" 722 340,kr P "View" 753 357,kr P "view_of" 759 366,kr P "kinds_along" 765 371,kr P "kinds_that_look_so" 771 376,kr P "may_be" 777 381,kr P "fits" 783 386,kr P "hoist_fits" 789 391,kr P "fits_at" 795 396,kr P "Plan" 830 413,kr P "display_told" 836 422,kr P "copies_lacking" 842 427,kr P "sames_along" 848 432,kr P "bits_of_sames" 854 437,kr P "places_of" 867 444,kr P "plan_of" 873 449,kr P "places_outside" 879 454,kr P "copies_in" 885 459,kr P "hoist_told" 891 464,kr P "flag_told" 897 469,kr P "hang" 903 474,ki P "TITLE_LINES" 2 906,ki P "MOST_ENTRIES" 2048 908,ki P "LONGEST_MEANING" 64 910,ki P "FULL_STOP" 46 912,ki P "LAST_PRINTED" 126 914,kr P "NoBook" 935 484,kr P "Entry" 966 504,kr P "Book" 997 525,kr P "read_book" 1003 534,kr P "numbers_of_signs" 1009 539,kr P "read_entry" 1018 546,kr P "read_signs" 1024 551,kr P "read_meaning" 1030 556,kr P "are_in_order_books" 1037 561,kr P "can_be_shown" 1043 566,ki P "MOST_IN_DOUBT" 1024 1046,kr P "TooMuchInDoubt" 1067 576,kr P "Reading" 1100 596,kr P "readings_of" 1106 605,kr P "entries_in_doubt" 1112 610,kr P "product" 1121 617,kr P "all_rows" 1127 622,kr P "sides_of" 1134 629,kr P "SPELLING" 1139 630,kr P "TellsNothing" 1159 640,kr P "entries_tell" 1168 650,kr P "Finding" 1205 667,kr P "says" 1216 678,kr P "says_told" 1222 683,kr P "answered" 1233 690,kr P "found" 1245 697] 130),#[]⟩)::
 (nat_lit 15,⟨(.type "tuple"),none,(.seq #[(.str "square" 189),(.str "tails" 190),(.str "long" 191)] 0),#[]⟩)::
 (nat_lit 21,kv "cell_behind" 201 7 1 16 205)::
 (nat_lit 22,kg "cell_behind" 6 187 21)::
 (nat_lit 26,kw "cells_seen" 208 9 3 23 211)::
 (nat_lit 27,kg "cells_seen" 7 187 26)::
 (nat_lit 31,kw "spelled" 228 20 1 28 231)::
 (nat_lit 32,kg "spelled" 15 214 31)::
 (nat_lit 38,kv "cut" 234 22 2 33 241)::
 (nat_lit 39,kg "cut" 16 214 38)::
 (nat_lit 45,kv "whole_lines" 244 30 1 40 250)::
 (nat_lit 46,kg "whole_lines" 17 214 45)::
 (nat_lit 52,kv "place_among" 253 34 2 47 260)::
 (nat_lit 53,kg "place_among" 18 214 52)::
 (nat_lit 57,kw "places_in" 263 39 2 54 266)::
 (nat_lit 58,kg "places_in" 19 214 57)::
 (nat_lit 64,kv "read_colours" 269 44 1 59 273)::
 (nat_lit 65,kg "read_colours" 20 214 64)::
 (nat_lit 71,kv "is_name" 276 48 1 66 280)::
 (nat_lit 72,kg "is_name" 21 214 71)::
 (nat_lit 78,kv "name_behind" 283 50 2 73 289)::
 (nat_lit 79,kg "name_behind" 22 214 78)::
 (nat_lit 80,⟨(.type "tuple"),none,(.seq #[(.str "sign" 298),(.str "same" 299),(.str "answer" 300)] 0),#[]⟩)::
 (nat_lit 81,⟨(.type "tuple"),none,(.seq #[(.int 5 302),(.int 5 303),(.int 4 304)] 0),#[]⟩)::
 (nat_lit 90,ky P 321 292 64 89)::
 (nat_lit 91,ku "NoLocker" 91 90 82 314)::
 (nat_lit 107,kn "Kind.__init__" 346 68 7 102 356)::
 (nat_lit 108,kj "Kind.__init__" 33 292 107)::
 (nat_lit 110,kx P 341 292 66 358 108 365)::
 (nat_lit 111,kt "Kind" 111 110 334)::
 (nat_lit 128,kn "Locker.__init__" 385 77 3 123 391)::
 (nat_lit 129,kj "Locker.__init__" 34 292 128)::
 (nat_lit 131,kx P 380 292 75 393 129 396)::
 (nat_lit 132,kt "Locker" 132 131 373)::
 (nat_lit 140,kw "read_locker" 404 80 1 137 407)::
 (nat_lit 141,kg "read_locker" 35 292 140)::
 (nat_lit 147,kv "read_name" 410 89 1 142 414)::
 (nat_lit 148,kg "read_name" 36 292 147)::
 (nat_lit 154,kv "read_digit" 417 93 2 149 422)::
 (nat_lit 155,kg "read_digit" 37 292 154)::
 (nat_lit 161,kv "read_kind" 425 97 1 156 436)::
 (nat_lit 162,kg "read_kind" 38 292 161)::
 (nat_lit 166,kw "are_in_order" 439 110 1 163 442)::
 (nat_lit 167,kg "are_in_order" 39 292 166)::
 (nat_lit 173,kv "may_follow" 446 116 2 168 451)::
 (nat_lit 174,kg "may_follow" 41 292 173)::
 (nat_lit 178,kw "are_different" 454 120 1 175 457)::
 (nat_lit 179,kg "are_different" 42 292 178)::
 (nat_lit 183,kw "has_twice" 460 124 1 180 463)::
 (nat_lit 184,kg "has_twice" 43 292 183)::
 (nat_lit 185,⟨(.type "tuple"),none,(.seq #[(.str "front" 472),(.str "behind" 473),(.str "unknown" 474)] 0),#[]⟩)::
 (nat_lit 186,⟨(.type "tuple"),none,(.seq #[(.str "hoist" 478),(.str "hoist above" 479),(.str "hoist below" 480),(.str "hoist above below" 481)] 0),#[]⟩)::
 (nat_lit 187,⟨(.type "tuple"),none,(.seq #[(.str "square" 483),(.str "tails" 484),(.str "long" 485),(.str "shape?" 486)] 0),#[]⟩)::
 (nat_lit 200,kn "NoPlate.__init__" 518 144 3 195 524)::
 (nat_lit 201,kj "NoPlate.__init__" 60 470 200)::
 (nat_lit 203,⟨(.type "dict"),none,(.dict #[ke P "__module__" 513 (.str "halfseendesk.platetexts" 470),ke P "__firstlineno__" 517 (.int 142 516),ke P "__init__" 526 (.ref 201),ke P "__static_attributes__" 529 (.ref 202),ke P "__weakref__" 531 (.ref 205),ke P "__doc__" 532 .none] 3),#[]⟩)::
 (nat_lit 204,ku "NoPlate" 204 203 188 506)::
 (nat_lit 220,kn "Sighting.__init__" 549 150 3 215 555)::
 (nat_lit 221,kj "Sighting.__init__" 61 470 220)::
 (nat_lit 223,kx P 544 470 148 557 221 560)::
 (nat_lit 224,kt "Sighting" 224 223 537)::
 (nat_lit 241,kn "Glimpse.__init__" 580 155 4 236 587)::
 (nat_lit 242,kj "Glimpse.__init__" 62 470 241)::
 (nat_lit 244,kx P 575 470 153 589 242 593)::
 (nat_lit 245,kt "Glimpse" 245 244 568)::
 (nat_lit 262,kn "Plate.__init__" 613 161 4 257 620)::
 (nat_lit 263,kj "Plate.__init__" 63 470 262)::
 (nat_lit 265,kx P 608 470 159 622 263 626)::
 (nat_lit 266,kt "Plate" 266 265 601)::
 (nat_lit 276,kv "read_plate" 634 165 1 271 644)::
 (nat_lit 277,kg "read_plate" 64 470 276)::
 (nat_lit 283,kv "read_line" 647 181 1 278 654)::
 (nat_lit 284,kg "read_line" 65 470 283)::
 (nat_lit 290,kv "read_side" 657 187 1 285 664)::
 (nat_lit 291,kg "read_side" 66 470 290)::
 (nat_lit 297,kv "read_row" 667 196 1 292 671)::
 (nat_lit 298,kg "read_row" 67 470 297)::
 (nat_lit 304,kv "may_stand" 674 200 2 299 679)::
 (nat_lit 305,kg "may_stand" 68 470 304)::
 (nat_lit 311,kv "lacks_flags" 682 208 1 306 686)::
 (nat_lit 312,kg "lacks_flags" 69 470 311)::
 (nat_lit 318,kv "lacks_cells" 689 210 1 313 693)::
 (nat_lit 319,kg "lacks_cells" 70 470 318)::
 (nat_lit 325,kv "has_whole_hoists" 696 214 1 320 700)::
 (nat_lit 326,kg "has_whole_hoists" 71 470 325)::
 (nat_lit 332,kv "put" 703 216 3 327 709)::
 (nat_lit 333,kg "put" 72 470 332)::
 (nat_lit 339,kv "sighting_of" 714 227 3 334 720)::
 (nat_lit 340,kg "sighting_of" 74 712 339)::
 (nat_lit 353,kn "View.__init__" 735 231 3 348 741)::
 (nat_lit 354,kj "View.__init__" 75 712 353)::
 (nat_lit 356,kx P 730 712 229 743 354 746)::
 (nat_lit 357,kt "View" 357 356 723)::
 (nat_lit 365,kw "view_of" 754 234 3 362 757)::
 (nat_lit 366,kg "view_of" 76 712 365)::
 (nat_lit 370,kw "kinds_along" 760 237 2 367 763)::
 (nat_lit 371,kg "kinds_along" 77 712 370)::
 (nat_lit 375,kw "kinds_that_look_so" 766 239 2 372 769)::
 (nat_lit 376,kg "kinds_that_look_so" 78 712 375)::
 (nat_lit 380,kw "may_be" 772 241 2 377 775)::
 (nat_lit 381,kg "may_be" 79 712 380)::
 (nat_lit 385,kw "fits" 778 245 3 382 781)::
 (nat_lit 386,kg "fits" 80 712 385)::
 (nat_lit 390,kw "hoist_fits" 784 247 3 387 787)::
 (nat_lit 391,kg "hoist_fits" 81 712 390)::
 (nat_lit 395,kw "fits_at" 790 252 3 392 793)::
 (nat_lit 396,kg "fits_at" 82 712 395)::
 (nat_lit 409,kn "Plan.__init__" 810 257 4 404 817)::
 (nat_lit 410,kj "Plan.__init__" 84 796 409)::
 (nat_lit 412,kx P 805 796 255 819 410 823)::
 (nat_lit 413,kt "Plan" 413 412 798)::
 (nat_lit 421,kw "display_told" 831 261 2 418 834)::
 (nat_lit 422,kg "display_told" 85 796 421)::
 (nat_lit 426,kw "copies_lacking" 837 271 2 423 840)::
 (nat_lit 427,kg "copies_lacking" 86 796 426)::
 (nat_lit 431,kw "sames_along" 843 277 3 428 846)::
 (nat_lit 432,kg "sames_along" 87 796 431)::
 (nat_lit 436,kw "bits_of_sames" 849 279 4 433 852)::
 (nat_lit 437,kg "bits_of_sames" 88 796 436)::
 (nat_lit 443,kv "places_of" 855 282 2 438 865)::
 (nat_lit 444,kg "places_of" 89 796 443)::
 (nat_lit 448,kw "plan_of" 868 288 4 445 871)::
 (nat_lit 449,kg "plan_of" 90 796 448)::
 (nat_lit 453,kw "places_outside" 874 297 2 450 877)::
 (nat_lit 454,kg "places_outside" 91 796 453)::
 (nat_lit 458,kw "copies_in" 880 299 3 455 883)::
 (nat_lit 459,kg "copies_in" 92 796 458)::
 (nat_lit 463,kw "hoist_told" 886 301 3 460 889)::
 (nat_lit 464,kg "hoist_told" 93 796 463)::
 (nat_lit 468,kw "flag_told" 892 303 3 465 895)::
 (nat_lit 469,kg "flag_told" 94 796 468)::
 (nat_lit 473,kw "hang" 898 311 4 470 901)::
 (nat_lit 474,kg "hang" 95 796 473)::
 (nat_lit 483,ky P 923 904 327 482)::
 (nat_lit 484,ku "NoBook" 484 483 475 916)::
 (nat_lit 500,kn "Entry.__init__" 948 331 3 495 954)::
 (nat_lit 501,kj "Entry.__init__" 103 904 500)::
 (nat_lit 503,kx P 943 904 329 956 501 959)::
 (nat_lit 504,kt "Entry" 504 503 936)::
 (nat_lit 521,kn "Book.__init__" 979 336 3 516 985)::
 (nat_lit 522,kj "Book.__init__" 104 904 521)::
 (nat_lit 524,kx P 974 904 334 987 522 990)::
 (nat_lit 525,kt "Book" 525 524 967)::
 (nat_lit 533,kw "read_book" 998 339 2 530 1001)::
 (nat_lit 534,kg "read_book" 105 904 533)::
 (nat_lit 538,kw "numbers_of_signs" 1004 351 1 535 1007)::
 (nat_lit 539,kg "numbers_of_signs" 106 904 538)::
 (nat_lit 545,kv "read_entry" 1010 353 2 540 1016)::
 (nat_lit 546,kg "read_entry" 107 904 545)::
 (nat_lit 550,kw "read_signs" 1019 358 2 547 1022)::
 (nat_lit 551,kg "read_signs" 108 904 550)::
 (nat_lit 555,kw "read_meaning" 1025 363 1 552 1028)::
 (nat_lit 556,kg "read_meaning" 109 904 555)::
 (nat_lit 560,kw "are_in_order" 1031 369 1 557 1034)::
 (nat_lit 561,kg "are_in_order" 110 904 560)::
 (nat_lit 565,kw "can_be_shown" 1038 373 2 562 1041)::
 (nat_lit 566,kg "can_be_shown" 112 904 565)::
 (nat_lit 575,ky P 1055 1044 377 574)::
 (nat_lit 576,ku "TooMuchInDoubt" 576 575 567 1048)::
 (nat_lit 592,kn "Reading.__init__" 1080 381 4 587 1087)::
 (nat_lit 593,kj "Reading.__init__" 116 1044 592)::
 (nat_lit 595,kx P 1075 1044 379 1089 593 1093)::
 (nat_lit 596,kt "Reading" 596 595 1068)::
 (nat_lit 604,kw "readings_of" 1101 385 3 601 1104)::
 (nat_lit 605,kg "readings_of" 117 1044 604)::
 (nat_lit 609,kw "entries_in_doubt" 1107 397 2 606 1110)::
 (nat_lit 610,kg "entries_in_doubt" 118 1044 609)::
 (nat_lit 616,kv "product" 1113 402 1 611 1119)::
 (nat_lit 617,kg "product" 119 1044 616)::
 (nat_lit 621,kw "all_rows" 1122 407 1 618 1125)::
 (nat_lit 622,kg "all_rows" 120 1044 621)::
 (nat_lit 628,kv "sides_of" 1128 417 1 623 1132)::
 (nat_lit 629,kg "sides_of" 121 1044 628)::
 (nat_lit 630,⟨(.type "tuple"),none,(.seq #[(.str "spell" 1137),(.str "more" 1138)] 0),#[]⟩)::
 (nat_lit 639,ky P 1147 1135 421 638)::
 (nat_lit 640,ku "TellsNothing" 640 639 631 1140)::
 (nat_lit 649,kv "entries_tell" 1160 423 1 644 1166)::
 (nat_lit 650,kg "entries_tell" 125 1135 649)::
 (nat_lit 663,kn "Finding.__init__" 1183 435 5 658 1191)::
 (nat_lit 664,kj "Finding.__init__" 127 1169 663)::
 (nat_lit 666,kx P 1178 1169 433 1193 664 1198)::
 (nat_lit 667,kt "Finding" 667 666 1171)::
 (nat_lit 677,kv "says" 1206 440 4 672 1214)::
 (nat_lit 678,kg "says" 128 1169 677)::
 (nat_lit 682,kw "says_told" 1217 442 2 679 1220)::
 (nat_lit 683,kg "says_told" 129 1169 682)::
 (nat_lit 689,kv "answered" 1223 450 4 684 1231)::
 (nat_lit 690,kg "answered" 130 1169 689)::
 (nat_lit 696,kv "found" 1234 464 3 691 1243)::
 (nat_lit 697,kg "found" 131 1169 696)::[]
def kA:List Addr:=[3,15,21,22,26,27,31,32,38,39,45,46,52,53,57,58,64,65,71,72,78,79,80,81,90,91,107,108,110,111,128,129,131,132,140,141,147,148,154,155,161,162,166,167,173,174,178,179,183,184,185,186,187,200,201,203,204,220,221,223,224,241,242,244,245,262,263,265,266,276,277,283,284,290,291,297,298,304,305,311,312,318,319,325,326,332,333,339,340,353,354,356,357,365,366,370,371,375,376,380,381,385,386,390,391,395,396,409,410,412,413,421,422,426,427,431,432,436,437,443,444,448,449,453,454,458,459,463,464,468,469,473,474,483,484,500,501,503,504,521,522,524,525,533,534,538,539,545,546,550,551,555,556,560,561,565,566,575,576,592,593,595,596,604,605,609,610,616,617,621,622,628,629,630,639,640,649,650,663,664,666,667,677,678,682,683,689,690,696,697]
noncomputable def kQ:Program:=PySem.W.view PySem.Challenge.pw_halfseendesk_s07_says [1,2,3,4,5,6,7,9,10,11,12,13,14,15,16,17,18,19,20,21,22,24,25,26,27,28,29,30,31,32,33,34,35,36,37,38,40,41,42,43,44,45,47,48,49,50,51,52,53,54,55,56,57,58,59,60,61,62,63,64,65,66,67,68,69,70,71,72,74,75,76,77,78,79,80,81,82,84,85,86,87,88,89,90,91,92,93,94,95,97,98,99,100,101,102,103,104,105,106,107,108,109,110,111,112,114,115,116,117,118,119,120,121,123,124,125,127,128,129,130,131]
def kE(P:Params):kA=(kK P).map (·.1):=by kernel_rfl
abbrev kL:List Str:=["are_in_order_lockers","are_in_order_books"]
noncomputable abbrev kX:Shared->Bool:=λs=>PySem.W.xlAt kQ [] s&&PySem.W.recOk [] s
noncomputable abbrev kR (w:World) (os:OsState):=PySem.W.Fast.tw1264388230241321415 PySem.W.Fast.tw14364793385576792824 PySem.Challenge.pw_halfseendesk_s07_says w 11 (some (.ref 6)) 11710 (OH.startT w os) (PySem.W.topStub PySem.Challenge.pw_halfseendesk_s07_says)
section
open PySem.Calls PySem.W
def qS(w:World)(os:OsState):(kR w os).map (λs=>(s.abs.heap.bltView,plainSeenD kQ kL s.abs,clsSeenW kQ kL s.abs,(s.abs.heap.accountedOkI (importedModules PySem.Challenge.pw_halfseendesk_s07_says.main.body),s.abs.heap.isNs mainGlobals,s.abs.heap.isNs builtinsNs),(kX s.abs,s.abs.gens.size==0),OH.keptAt PySem.Challenge.pw_halfseendesk_s07_says w s.abs,pinSeenD kQ (drecsOf kQ) s.abs,Hook.obs Âw s.abs))=some (bltViewBooted,plainGoodD kQ kL,clsGoodW kQ kL,(true,true,true),(true,true),true,pinGoodD (drecsOf kQ),Hook.val Âw w):=by kernel_rfl
def oJ(w:World)(os:OsState):(kR w os).map (λs=>(tablesOk kQ s.abs.heap,seen ((recsOf kQ).map (·.name)) (ownsOf kQ) [] {s.abs with gens:= #[]}))=some (true,expectedOf kQ):=by kernel_rfl
def qT(w:World)(os:OsState):(kR w os).map (λs=>(s.abs.heap.keysOk Äq ((recsOf kQ).map (·.name)) ((litsOf kQ).map (·.1)) ((clssOf kQ Äq).map (·.name))))=some (true):=by kernel_rfl
def Ih(w:World)(os:OsState):(kR w os).map (λs=>(tabsOk kQ s.abs))=some (true):=by kernel_rfl
def Zo(w:World)(os:OsState):(kR w os).map (λs=>(plainSeenE kQ Äq s.abs))=some (plainGoodE kQ Äq):=by kernel_rfl
def Ii(w:World)(os:OsState):(kR w os).map (λs=>(wideSeen kQ s.abs))=some (wideGood kQ):=by kernel_rfl
def md{α β:Type}{x:Option α}{z:α}{f:α->β}{b:β}(r:x=some z)(h:x.map f=some b):f z=b:=by
 rw[r] at h;exact aI h
def Zp{A B C D E F G H I J K:Type}{a m:A}{b z:B}{c M:C}{d d':D}{e O:E}{f S:F}{g g':G}{h h':H}{i U:I}{j W:J}{k Y:K}(h1:a=m)(h2:b=z)(h3:c=M)(h4:d=d')(h5:e=O)(h6:f=S)(h7:g=g')(h8:h=h')(h9:i=U)(Z:j=W)(Zr:k=Y):
  (a,(b,c,d,e,f,g,h,i,j),k)=(m,(z,M,d',O,S,g',h',U,W),Y):=by
 cases h1;cases h2;cases h3;cases h4;cases h5;cases h6;cases h7;cases h8;cases h9;cases Z;cases Zr;rfl
def Zs:LeftO PySem.Challenge.pw_halfseendesk_s07_says kQ kL kX (Hook.obs Âw) (Hook.val Âw) 11710:=
 OH.Zn (by kernel_rfl) Ô (λs=>by kernel_rfl) λw os=>by
  let(z,r,_):=yP.mp (qS w os);rw[show PySem.W.Fast.tw1264388230241321415 PySem.W.Fast.tw14364793385576792824 PySem.Challenge.pw_halfseendesk_s07_says w 11 (some (.ref 6)) 11710 (OH.startT w os) (PySem.W.topStub PySem.Challenge.pw_halfseendesk_s07_says)=some z from r];let G:=md r (qS w os);let Zt:=cJ (λx=>x.1) G;let Zu:=cJ (λx=>x.2.1) G;let Zv:=cJ (λx=>x.2.2.1) G;let I:=cJ (λx=>x.2.2.2.1) G;let j:=cJ (λx=>x.2.2.2.2.1) G;let Zw:=cJ (λx=>x.2.2.2.2.2.1) G;let Zx:=cJ (λx=>x.2.2.2.2.2.2.1) G;let Zy:=cJ (λx=>x.2.2.2.2.2.2.2) G;let S:=md r (oJ w os);let Zz:=cJ (λx=>x.1) S;let Z:=cJ (λx=>x.2) S;let g2:=md r (qT w os);let U:=g2;let g3:=md r (Ih w os);let Y:=g3;let g4:=md r (Zo w os);let ZE:=g4;let g5:=md r (Ii w os);let ZF:=g5;dsimp only at*;apply cJ some (Zp Zw Z Zt ?_ Y Zx ZE Zu ZF Zv Zy);let m:=cJ (λx=>x.1) I;let F:=cJ (λx=>x.2.1) I;let J:=cJ (λx=>x.2.2) I;let M:=cJ (λx=>x.1) j;let O:=cJ (λx=>x.2) j;dsimp only at m F J M O;show(_&&_&&_&&_&&_&&_&&(z.abs.gens.size==0))=true;rw[U,m,F,J,Zz,M,O];rfl
end
end HD
end
abbrev LI:=List Int
abbrev LN:=List Nat
abbrev br:=List (List Nat)
abbrev c7:=List (List Int)
abbrev FR:=PySem.W.Frag
abbrev MG:=PySem.Str->Option PySem.Value
abbrev OA:=Option PySem.Addr
abbrev LV:=List PySem.Value
abbrev LS:=List PySem.Str
abbrev AO:=Array (Option PySem.Value)
abbrev VP:=PySem.Value->PySem.Shared->Prop
abbrev bJ:=List (PySem.Addr×PySem.Obj)
abbrev cj:=List (Nat×Nat)
abbrev e9:=List (PySem.Str×PySem.Addr)
abbrev LA:=List PySem.Addr
abbrev Sh:=PySem.Shared
abbrev Pg:=PySem.Program
abbrev Wd:=PySem.World
abbrev FD:=PySem.FuncData
section
namespace PySem
namespace XL
abbrev qU(C t:Addr):Obj:={cls:=.ref C,data:=.fields #[.ref t,.none,.none,.none,.bool false,.none]}
abbrev oK(bQ:LV):Obj:={cls:=.type "tuple",data:=.seq bQ.toArray}
def ZG(x:Addr)(R:Result->Shared->Prop)(r:Result)(s':Sh):Prop:=match r with
 |.ok (.ret v)=>v=.none/\R (.ok (.ret š)) s'
 |.ok _=>False
 |.error e=>R Àu s'
section
variable{prog:Pg}{w:Wd}{A:Around}{E:VP}{h:Heap}{g:Array GenState}{d:Drawn}{t:Nat}{os:OsState}
def ZH(F:ExcBaseFacts B newId initId bm)(j:h.get? C=some Ė) (S:h.Ns N mN) (W:mN "__init__"=some (.ref fI)) (O:h.get? fI=some oF) (J:oF.cls=.type "function")(U:codeAny Ó A (.call (.ref fI) ⟨.ref (h.objs.size+1)::bQ,[]⟩) (λr s'=>match r with
   |.ok (.ret v)=>v=.none/\Q (.done (.ret (.ref (h.objs.size+1)))) s'
   |.ok _=>False
   |.error e=>E e s') ⟨(h.push (oK bQ)).push Ņ,g,d,t,os⟩) (hrest:bQ.length<=sizeLine:=by size_fits):
  wpAny Ó A (Builtin.«type.__call__» ⟨.ref C::bQ,[]⟩) Q E ⟨h,g,d,t,os⟩:=by
 repeat (first|with_reducible apply uo j ?_|with_reducible apply wpAny_madeBy_exc j ?_|wp_step)
 apply codeAny_call_builtin_code (Code.quiet_builtin _ F.quiet) (wpAny_check_new_sub F j ?_);apply codeAny_exc_new_sub F j ?_ hrest;let m:=dq Ņ (dq (oK bQ) j);let G:=dq Ņ (dq (oK bQ) O);let I:((h.push (oK bQ)).push Ņ).Ns N mN:=
  let ⟨o,es,ep,e,r⟩:=S;⟨o,es,ep,dq _ (dq _ e),r⟩
 let Z:((h.push (oK bQ)).push Ņ).get? (h.objs.size+1)=some Ņ:=by heap_get
 let M:(Value.ref C::bm).contains ā=true:=by simp
 delta isInstance
 repeat (first|with_reducible apply uo Z ?_|(with_reducible apply Pl m ?_;rw[M])|wp_step)
 apply YA m I F.mroIs F.init.lookup ?_;rw[W];apply YB (aQ ?_);delta bindSpecial typeOf
 repeat (first|(with_reducible apply uo G ?_;rw[J])|wp_step)
 apply vz U λr s' z=>?_;rcases r with e|(_|v|_|_) <;> first|exact z|exact z.elim|skip
 all_goals (let(rfl,z):=z;exact di (di z))
def ZJ(F:ExcBaseFacts B newId initId bm)(j:h.get? C=some Ė) (G:h.Ns N mN) (M:mN "__init__"=some (.ref fI)) (m:h.get? fI=some oF) (I:oF.cls=.type "function")(J:codeAny Ó (A.under (.builtin "type.__call__" ⟨.ref C::bQ,[]⟩)) (.call (.ref fI) ⟨.ref (h.objs.size+1)::bQ,[]⟩) (ZG (h.objs.size+1) R) ⟨(h.push (oK bQ)).push Ņ,g,d,t,os⟩) (hrest:bQ.length<=sizeLine:=by size_fits):
  codeAny Ó A (.call ā ⟨bQ,[]⟩) R ⟨h,g,d,t,os⟩:=by
 let O:=tc_lookup;let S:=tc_bind ā;let U:(⟨h,g,d,t,os⟩:Sh).TypeIs ā "type":=⟨_,j,rfl⟩;apply codeAny_of_tree ?_
 repeat (any_goals (first|assumption|with_reducible apply uo j ?_|wp_step))
 refine ų;apply codeAny_call_builtin_at (Code.quiet_builtin _ Ê) entry_typeCall (wpAny_check_type_call_sub j (ZH (hrest:=hrest) F j G M m I (vz J λr s' z=>?_)));rcases r with e|(_|v|_|_) <;> exact z
end
section
def ZK(Z:bm.contains (.type "BaseException")=true)(U:A.handled=none)(h:Ϗ x (λv S=>∃e O vs,v=.ref e/\S.heap.get? C=some Ė/\
   S.heap.get? e=some O/\O.cls=.ref C/\O.data=.fields vs/\vs[1]? =some .none/\E Èw S) E s):
  wpAny M A (raiseStmt env (some x) none) Q E s:=by
 let I:(Value.ref C::bm).contains (.type "BaseException")=true:=by rw[AQ,Z,YC]
 delta raiseStmt;apply aQ (i6 h (λv S W=>?_) λ_ _ x=>x);let(e,O,vs,rfl,j,J,m,hd,F,G):=W;let(hp,g,d,tk,os):=S;let(Y,od,z,ny):=O;obtain rfl:Y=.ref C:=m;obtain rfl:z=.fields vs:=hd
 repeat (first|with_reducible apply uo J ?_|with_reducible apply uo j ?_|(with_reducible apply Pl j ?_;rw[I])|wp_step)
 rw[F];apply di ?_;rw[ah Ù];exact di (wpAny_raiseNew_none U G)
end
section
variable{prog:Pg}{w:Wd}{A:Around}{E:VP}{h:Heap}{g:Array GenState}{d:Drawn}{t:Nat}{os:OsState}
def ZL(F:ExcBaseFacts B newId initId bm)(G:h.get? C=some ö) (m:h.get? x=some oe) (hc:oe.cls=.ref C) (hd:oe.data=.fields vs) (z:0<vs.size)(I:Q .none ⟨(h.push (oK [])).update x (Obj.mapFields (·.setIfInBounds 0 (.ref h.objs.size))),g,d,t,os⟩):
  wpAny Ó A (call (.builtin initId) [.ref x]) Q E ⟨h,g,d,t,os⟩:=by
 let j:=dq (oK []) m;apply AR (codeAny_call_builtin F.init.plain F.initEntry (wpAny_check_init_sub F G m hc ?_));delta Builtin.«BaseException.__init__»
 repeat (any_goals (first|assumption|wp_step))
 rw[hd];apply di ?_;rw[show vs[0]? =some vs[0] from Array.getElem?_eq_getElem z];apply di (aQ (DE j hd z ?_));cases vs[0] <;> (wp_walk;exact I)
end
end XL
end PySem
end
section
namespace PySem
namespace XL
structure Ip(fr:LA)(z e T:Addr)(oe:Obj)(fl:Value)(h h':Heap):Prop where
 new:h.objs.size<=T
 ne:T≠e
 keep:∀b o,b∉fr->b≠e->b≠z->h.get? b=some o->h'.get? b=some o
 slot:∀b o,b∈fr->b≠e->b≠z->h.get? b=some o->∃sl,h'.get? b=some {o with slots:=sl}
 exc:h'.get? e=some (oe.mapFields (·.setIfInBounds 1 Ů))
 ent:∃oT ts,h'.get? T=some oT/\oT.data=.fields ts/\ts[3]? =some fl
section
def Qe{base:Heap}{env:Env}{outer:List Env}{L e z:Addr}{O:Obj}{vs:Array Value}{head:Value}{Z:Bool}{Q:Unit->Shared->Prop}(fs:A.frames=some (env::outer)) (J:s.heap.FunFrames base (env::outer)) (U:env.frame=some L) (Y:s.heap.get? e=some O) (I:O.data=.fields vs) (ze:1<vs.size)(k:∀h' T,Ip ((env::outer).filterMap (·.frame)) z e T O Æp s.heap h'->Q () {s with heap:=h'}):
  wpAny M A (do
   let a <-frameOf env
   let pl <-entryPlaceOf L Z
   let b <-EntryCells.newEntry head a .none Æp .none pl
   setField Èw 1 b) Q E s:=by
 let nf:e∉(env::outer).filterMap (·.frame):=λm=>by
  let(_,o,G,g2):=J.mem m;symm
 apply aQ (wpAny_frameOf_fun fs J U λg gs=>aQ (wpAny_entryPlaceOf λpl hp=>?_));delta EntryCells.newEntry newFields;apply aQ (Pn ?_ (hp.sizeOk5 _ _ _ _ _));let G:=(gs.2.1 e nf).trans Y;let g2:=dq (h:=g) {cls:=.type "traceback",dict:=none,data:=.fields ([head,.ref L,.none,rawInt L,.none]++(if pl.isEmpty then List.replicate 6 Value.none else pl)).toArray} G;let te:=uq (c9 G);apply DE g2 I ze (k _ g.objs.size ⟨DF gs.1.symm,te,λb o S F _ j=>?_,λb o S F _ j=>?_,?_,?_⟩)
 .rw[AS _ _ (d8 F)];exact dq _ ((gs.2.1 b S).trans j)
 .let(sl,W):=gs.2.2 b o j;exact(sl,by rw[AS _ _ (d8 F)];exact dq _ W)
 .exact DG _ g2 (HI (vA I _))
 .apply(_,_,(AS _ _ (d8 te)).trans (iq g Á),Á,?_);rfl
def ZM{base:Heap}{env:Env}{outer:List Env}{L e z:Addr}{O:Obj}{vs:Array Value}{Q:Unit->Shared->Prop}(fs:A.frames=some (env::outer)) (I:s.heap.FunFrames base (env::outer)) (F:env.frame=some L) (G:s.heap.get? e=some O) (j:O.data=.fields vs) (m:vs[1]? =some .none)(k:∀h' T,Ip ((env::outer).filterMap (·.frame)) z e T O Æp s.heap h'->Q () {s with heap:=h'}):Ϗ (noteFrame Èw env) Q E s:=by
 delta noteFrame;simp only[F];apply aQ (vB G j m ?_);rw[ah Ù];exact Qe fs I F G j (AU.mp m).1 k
def ZN{base:Heap}{env:Env}{outer:List Env}{L e z:Addr}{W oz:Obj}{vs zs:Array Value}{Q:Unit->Shared->Prop}(fs:A.frames=some (env::outer)) (ff:s.heap.FunFrames base (env::outer)) (Z:env.frame=some L) (ge:s.heap.get? e=some W) (Y:W.data=.fields vs) (h1:vs[1]? =some (.ref z))(I:s.heap.get? z=some oz) (F:oz.data=.fields zs) {fl:Value} (h3:zs[3]? =some fl) (gr:(fl==rawInt L)=false) (O:z≠e)(k:∀h' T,Ip ((env::outer).filterMap (·.frame)) z e T W Æp s.heap h'->T≠z->(∃o ts,h'.get? z=some o/\o.data=.fields ts/\ts[3]? =some .none)->Q () {s with heap:=h'}):Ϗ (noteFrame Èw env) Q E s:=by
 let zz:=(AU.mp h3).1;delta noteFrame;simp only[Z];apply aQ (vB ge Y h1 ?_);rw[af (show(Value.ref z !=Value.none)=true by simp)];apply aQ (vB I F h3 ?_);rw[ah (show ¬((fl==rawInt L)=true) by simp_all)];apply aQ (DE I F zz ?_);let J:∀b,b≠z->(s.heap.update z (Obj.mapFields (·.setIfInBounds 3 Value.none))).get? b=s.heap.get? b:=λb n=>AS _ _ (d8 n);let ZO:(s.heap.update z (Obj.mapFields (·.setIfInBounds 3 Value.none))).get? z=_:=DG _ I (HI (vA F _));let ZP:∀b o,s.heap.get? b=some o->(∀ws,o.data≠ .fields ws)->b≠z:=λb o G g2 q=>by
  symm
 let ZQ:=ff.of_keeps (h':=s.heap.update z (Obj.mapFields (·.setIfInBounds 3 Value.none))) λb o G g2=>⟨o,(J b (ZP b o G g2)).trans G,rfl⟩;let ZR:z∉(env::outer).filterMap (·.frame):=λm=>by
  let(_,o,G,g2):=ff.mem m;symm
 apply Qe (z:=e) fs ZQ Z ((J e (d8 O)).trans ge) Y (AU.mp h1).1 λh' T n=>?_;let nn:s.heap.objs.size<=T:=by
  let:=n.new;symm
 let tz:T≠z:=λq=>absurd (c9 I) É;let D0:=n.keep z _ ZR O O ZO;exact k h' T ⟨nn,n.ne,λb o S j U G=>n.keep b o S j j ((J b U).trans G),λb o S j U G=>n.slot b o S j j ((J b U).trans G),n.exc,n.ent⟩ tz
  ⟨_,_,D0,vA F _,by simp[zz]⟩
end
end XL
end PySem
end
section
namespace PySem
namespace XL
open Builtin.ObjectAttr
section
variable{prog:Pg}{w:Wd}{A:Around}{E:VP}{h:Heap}{g:Array GenState}{d:Drawn}{t:Nat}{os:OsState}
def ZS{tk:Tok}{o:Obj}{Q:Fin->Shared->Prop}(S:StoreFacts B bm sa owner)(z:h.get? C=some ö) (hn:h.Ns N mN) (uB:mN name=none) (Y:typeLookup (.type B) name=pure none)(G:h.get? x=some o) (cx:o.cls=.ref C) (nx:∀c,o.data≠ .cls c) (dx:o.dict=none)(k:∀h' lR,h'.Ns1 h.objs.size (λy=>if y=name then some v else none)->h'.get? x=some {o with dict:=some h.objs.size}->(∀b O,b≠x->h.get? b=some O->h'.get? b=some O)->Q (.done (.ret .none)) ⟨h',g,d,lR,os⟩):
  wpAny Ó A (Builtin.«object.__setattr__» ⟨[.ref x,.str name tk,v],[]⟩) Q E ⟨h,g,d,t,os⟩:=by
 let ps:=S.passes š;delta Builtin.«object.__setattr__»
 repeat (first|rw[refuse_eq]|(rw[refuseLoop_ref,ps])|(with_reducible apply uo G ?_;rw[cx])|with_reducible apply wpAny_mroOf_exc z ?_|(with_reducible apply YA z hn S.mro Y ?_;rw[uB])|wp_step)
 rw[dx,ah (by simp[typeHasDict])];split
 .symm
 split
 .symm
 .let j:(h.push {cls:=.type "dict",data:=.dict #[]}).get? x=some o:=dq _ G;let ne:=ft (c9 G);apply aQ (wpAny_alloc' (aQ (wpAny_update' j (di ?_))));let W:((h.push {cls:=.type "dict",data:=.dict #[]}).update x λo=>{cls:=o.cls,dict:=some h.objs.size,data:=o.data,slots:=o.slots}).get? h.objs.size=some {cls:=.type "dict",data:=.dict #[]}:=
   (Heap.get?_update_ne _ _ _ _ ne.symm).trans (Heap.get?_push_at rfl rfl)
  let nd:((h.push {cls:=.type "dict",data:=.dict #[]}).update x λo=>{cls:=o.cls,dict:=some h.objs.size,data:=o.data,slots:=o.slots}).Ns h.objs.size (λ_=>none):=
   ⟨_,#[],_,W,rfl,λe Z=>absurd Z Ä,λ_=>rfl⟩
  delta storeInDict newKeyGuard;apply aQ (di (aQ (wpAny_nsSet1 (Heap.Ns1.of_empty nd) λh' F I=>?_)));let(oD,eD,pD,M,g2,U):=F.count (Within.cons name v Within.nil);apply aQ (wpAny_lookBehind M (by rw[g2];exact pastItsLine_dict (ia U (by rw[dc,sk,xl];omega))) ?_)
  wp_walk
  apply k h' _ F ?_ λb O nb m=>?_
  .apply(I.2 x ne).trans (DG _ j ?_);let fr:=(Heap.get?_some_iff.mp G).2;let(oc,od,J,ny):=o;cases J <;> first|rfl|exact fr
  .exact(I.2 b (ft (c9 m))).trans ((Heap.get?_update_ne _ _ _ _ nb).trans (dq _ m))
def ZT{o:Obj}{Q:Unit->Shared->Prop}(S:StoreFacts B bm sa owner)(j:h.get? C=some ö) (z:h.Ns N mN) (I:mN "__setattr__"=none) (U:mN name=none) (F:typeLookup (.type B) name=pure none)(G:h.get? x=some o) (cx:o.cls=.ref C) (nx:∀c,o.data≠ .cls c) (dx:o.dict=none)(k:∀h' m,h'.Ns1 h.objs.size (λy=>if y=name then some v else none)->h'.get? x=some {o with dict:=some h.objs.size}->(∀b O,b≠x->h.get? b=some O->h'.get? b=some O)->Q () ⟨h',g,d,m,os⟩):
  wpAny Ó A Äl Q E ⟨h,g,d,t,os⟩:=by
 let J:=S.slot.bind š;delta setAttr callSpecial? specialOf
 repeat (any_goals (first|assumption|(with_reducible apply uo G ?_;rw[cx])|(with_reducible apply YA j z S.mro S.slot.lookup ?_;rw[I])|wp_step))
 apply codeAny_call_builtin S.slot.plain S.entry (wpAny_check_sa S j G cx (ZS S j z U F G cx nx dx λh' m a b c=>?_))
 repeat (any_goals (first|assumption|wp_step))
 exact k h' m a b c
def ZU{o:Obj}{dx:Addr}{mA:MG}{ns:LS}{Q:Unit->Shared->Prop}(SF:StoreFacts B bm sa owner)(hC:h.get? C=some ö) (hn:h.Ns N mN) (oN:mN "__setattr__"=none) (uB:mN name=none) (hB:typeLookup (.type B) name=pure none)(G:h.get? x=some o) (cx:o.cls=.ref C) (nx:∀c,o.data≠ .cls c) (hd:o.dict=some dx) (ne:dx≠x) (hm:h.Ns1 dx mA) (hw:Within mA ns) (hz:ns.length<=sizeLine) (xC:x≠C)(k:∀h' F,h'.Ns1 dx (λy=>if y=name then some v else mA y)->(∀b O,b≠dx->h.get? b=some O->h'.get? b=some O)->Q () ⟨h',g,d,F,os⟩):
  wpAny Ó A Äl Q E ⟨h,g,d,t,os⟩:=by
 apply store_attr SF hC hn oN uB hB xC ⟨o,G,cx,nx,.inr ⟨dx,hd,ne,hm⟩⟩ (λh' F Z kp sm=>?_) hw hz;let(S,I,U,p2,W,m):=sm o G;let(o2,e1,_,_,e4):=Z;let eo:S=o2:=aI (I.symm.trans e1);subst eo;rcases e4 with ⟨j,_⟩|⟨d2,j,_,e6⟩
 .rw[m dx hd] at j;cases j
 .let ed:dx=d2:=aI ((m dx hd).symm.trans j);subst ed;apply k h' F e6 λb O nb J=>?_;by_cases M:b=x
  .subst M;let:O=o:=aI (J.symm.trans G);subst this;let Y:=(m dx hd).trans hd.symm;apply I.trans (cJ some ?_);let(a1,a2,a3,a4):=S;let(b1,b2,b3,b4):=O;dsimp only at U p2 W Y;subst U p2 W Y;rfl
  .exact kp b O M (λo0 d0 q1 q2 z=>nb (by
    let:o0=o:=aI (q1.symm.trans G);subst this;rw[z];exact aI (q2.symm.trans hd))) J
end
end XL
end PySem
end
section
namespace PySem
namespace XL
open AutoSeq1 (wpAny_loadPart')
section
def ZV{j t:Addr}{i:Nat}{F:Array Value}{x:Value}{Q:VP}(z:s.heap.IsTupleIter j t i)(M:s.heap.IsTuple t F)(O:F[i]? =some x)(k:∀h',h'.IsTupleIter j t (i+1)->Heap.SameBut j s.heap h'->Q x {s with heap:=h'}):wpAny Ó A (Builtin.SmallTypes.nextOf (.ref j)) Q E s:=by
 let(o,G,I,m):=id z;let(p,g2,_,n,J):=M;delta Builtin.SmallTypes.nextOf;apply aQ (wpAny_callSpecial?_slot (name:=Str.ofString "__next__") z.typeIs Po (wpAny_call_entry Po z.typeIs apO ?_ (apP _)));show wpAny _ _ (field (.ref j) 0 >>= _) _ _ s;apply aQ (vB G m (x:=.ref t) Á ?_);rw[ah (show ¬(Value.ref t==Value.none)=true from eC)];apply aQ (vB G m (x:=.int i 0) Á ?_);apply aQ (YD g2 J ?_);simp only[DH,O];apply aQ (DE G m Ä (di ⟨x,Á,di (k _ ⟨_,DG _ G (HI (vA m _)),(YE ..).trans I,?_⟩ (Heap.SameBut.update ..))⟩));rw[vA m];rfl
def ZW{j t:Addr}{i:Nat}{I:Array Value}{Q:VP}(J:A.handled=none)(F:s.heap.IsTupleIter j t i)(O:s.heap.IsTuple t I)(S:I[i]? =none)(k:∀h' e,Heap.ExtBut j s.heap h'->(∃o,h'.get? e=some o/\o.cls=.type "StopIteration")->E Èw {s with heap:=h'}):wpAny Ó A (Builtin.SmallTypes.nextOf (.ref j)) Q E s:=by
 let(o,G,U,z):=id F;let(p,g2,_,n,M):=O;delta Builtin.SmallTypes.nextOf;apply aQ (wpAny_callSpecial?_slot (name:=Str.ofString "__next__") F.typeIs Po (wpAny_call_entry Po F.typeIs apO ?_ (apP _)));show wpAny _ _ (field (.ref j) 0 >>= _) _ _ s;apply aQ (vB G z (x:=.ref t) Á ?_);rw[ah (show ¬(Value.ref t==Value.none)=true from eC)];apply aQ (vB G z (x:=.int i 0) Á ?_);apply aQ (YD g2 M ?_);simp only[DH,S];apply aQ (wpAny_rule (aQ (DE G z Ä ?_)));show wpAny _ _ (newExc (.type "StopIteration") [] >>= _) _ _ _;simp only[newExc,newTuple];apply aQ (aQ (Pn ?_ (by size_fits)));apply aQ (m:=firstArgMember _ _) (wpAny_of_eq (a:=Value.none) Ô (Pn ?_ (by size_fits)));simp only[raiseNew];apply aQ (wpAny_handled ?_)
 first|rw[show A.in1.handled=none from J]|rw[J]
 exact aQ (di (wpAny_throw (k _ _ (((Heap.SameBut.update ..).extBut.push _).push _) ⟨_,iq _ Á,Á⟩)))
end
def Qh{prog:Pg}{w:Wd}{A:Around}(J:A.handled=none)(j t:Addr)(z:t≠j)(m:Array Value):
  Draws prog w A j [j,t] m.size (λi v=>m[i]? =some v) (λi h=>h.IsTupleIter j t i/\h.IsTuple t m) where
 live:=λ_ _ st=>let ⟨o,ho,_⟩:=st.1;⟨o,ho⟩
 frame:=λ_ _ _ st hk=>⟨st.1.at λo e=>hk j Ä o e,let ⟨o,ho,r⟩:=st.2;⟨o,hk t Ä o ho,r⟩⟩
 item:=λi s Q E hi st G=>ZV st.1 st.2 (x:=m[i]) (by simp[hi]) λh' I Y=>G _ h' s.toks (by simp[hi]) ⟨I,let ⟨o,ho,r⟩:=st.2;⟨o,(Y.2 t z).trans ho,r⟩⟩ Y
 done:=λs Q E st F=>ZW J st.1 st.2 Ä F
def ZX(t:Addr)(z:Array Value)(n:Nat)(Y:OA)(sl:AO):
  Meets (Builtin.«enumerate.__new__» ⟨[.type "enumerate",.ref t],[]⟩) (λ_ R s=>s.heap.get? t=some {cls:=.type "tuple",dict:=Y,data:=.seq z n,slots:=sl}/\
   R (.ok (.ret (.ref (s.heap.push {cls:=.type "tuple_iterator",data:=.fields #[.ref t,.int 0 0]}).objs.size)))
    {s with heap:=(s.heap.push {cls:=.type "tuple_iterator",data:=.fields #[.ref t,.int 0 0]}).push {cls:=.type "enumerate",data:=.fields #[.none,.bool false,.ref s.heap.objs.size,rawInt 0,.none,.none]}}):=
 .of_wp λprog w A R s h=>by
  let(F,g,d,tk,os):=s;let(j,h):=h;let G:=sub_enumerate;let m:Heap.IsTuple (Shared.heap ⟨F,g,d,tk,os⟩) t z:=⟨_,j,rfl,n,rfl⟩
  wp_walk using jm j
  apply wpAny_stack_any λst=>di ?_;split
  .rename_i c _ _ _ _ _;cases (c==Value.type "enumerate")
   .wp_walk using jm j,YG m
    exact(_,Á,h)
   .wp_walk using jm j,YG m
    exact(_,Á,h)
  .wp_walk using jm j,YG m
   exact(_,Á,h)
section
def ZY{t:Addr}{j:Array Value}{Q:VP}(I:s.heap.IsTuple t j)(k:∀h',IsEnum h' Ï s.heap.objs.size 0 .none->h'.IsTupleIter s.heap.objs.size t 0->h'.objs.size=s.heap.objs.size+2->(∀b o,s.heap.get? b=some o->h'.get? b=some o)->Q (.ref Ï) {s with heap:=h'}):
  wpAny Ó A (call (.type "enumerate") [.ref t]) Q E s:=by
 let((c,Y,G,sl),J,hc,n,hd):=I;obtain rfl:c=.type "tuple":=hc;obtain rfl:G=.seq j n:=hd;apply callType_new F.called_enumerate Ù (F.typeCall_enumerate_1 _) (F.newCall_enumerate_1 _) (λobj=>F.args_object_init_2 obj _) F.entry_enumerate_new (ZX t j n Y sl) ⟨J,?_⟩;let m:(s.heap.push {cls:=.type "tuple_iterator",data:=.fields #[.ref t,.int 0 0]}).objs.size=s.heap.objs.size+1:=qP ..;show _/\_;rw[m];let z:IsEnum ((s.heap.push {cls:=.type "tuple_iterator",data:=.fields #[.ref t,.int 0 0]}).push {cls:=.type "enumerate",data:=.fields #[.none,.bool false,.ref s.heap.objs.size,rawInt 0,.none,.none]}) Ï s.heap.objs.size 0 .none:=by
  let q:=iq (s.heap.push {cls:=.type "tuple_iterator",data:=.fields #[.ref t,.int 0 0]}) (o:={cls:=.type "enumerate",data:=.fields #[.none,.bool false,.ref s.heap.objs.size,rawInt 0,.none,.none]}) rfl;rw[m] at q;exact q
 exact(⟨_,z,Á⟩,k _ z ⟨_,dq _ (iq _ Á),Á,Á⟩ (by rw[qP,m]) λb o y=>dq _ (dq _ y))
end
end XL
end PySem
end
section
namespace L2
open PySem PySem.Spec PyProof.Rows
abbrev Key:=Sum Int Str
abbrev eB:=List Key
def sA:Key->Value->Bool
 |.inl k,v=>Value.isInt k v
 |.inr x,v=>Value.isStrOf x v
def ZZ(w:Wd):Key->Int
 |.inl k=>hashInt k
 |.inr x=>hashStr w x
theorem sC:∀{k:Key}{v:Value},sA k v=true->(∃i t,k=Sum.inl i/\v=Value.int i t)\/(∃x t,k=Sum.inr x/\v=Value.str x t)
 |.inl i,v,h=>by
  let(t,e):=Value.isInt_shape (k:=i) (v:=v) h;exact .inl ⟨i,t,Á,e⟩
 |.inr x,v,h=>by
  let(t,e):=Value.isStrOf_shape (x:=x) (v:=v) h;exact .inr ⟨x,t,Á,e⟩
def Z0(i:Int)(t:Tok):sA (.inl i) Áw=true:=by simp[sA,Value.isInt]
def Z1(x:Str)(t:Tok):sA (.inr x) (.str x t)=true:=by simp[sA,Value.isStrOf]
def Z2(a b:Int):decide ((Sum.inl a:Key)=Sum.inl b)=(a==b):=by
 grind
def Z3(a b:Str):decide ((Sum.inr a:Key)=Sum.inr b)=decide (a=b):=by
 simp
def Z4(a:Int)(b:Str):decide ((Sum.inl a:Key)=Sum.inr b)=false:=f7 (λq=>nomatch q)
def Z5(a:Str)(b:Int):decide ((Sum.inr a:Key)=Sum.inl b)=false:=f7 (λq=>nomatch q)
def fb(prog:Pg)(w:Wd):PySem.KeyKind prog w Key where
 is:=sA
 hash:=ZZ w
 inj:=λv a b F z=>by
  rcases sC F with ⟨i,t,rfl,rfl⟩|⟨x,t,rfl,rfl⟩
  .rcases sC z with ⟨j,u,rfl,e⟩|⟨y,u,rfl,e⟩
   .injection e with e1 _;rw[e1]
   .exact nomatch e
  .rcases sC z with ⟨j,u,rfl,e⟩|⟨y,u,rfl,e⟩
   .exact nomatch e
   .injection e with e1 _;rw[e1]
 byValue:=λk v h=>by
  rcases sC h with ⟨i,t,rfl,rfl⟩|⟨x,t,rfl,rfl⟩ <;> rfl
 pyHash:=λm h=>by
  rcases sC m with ⟨i,t,rfl,rfl⟩|⟨x,t,rfl,rfl⟩
  .exact wpAny_pyHash_int h
  .exact wpAny_pyHash_str h
 eqBool:=λG m h=>by
  rcases sC G with ⟨i,t,rfl,rfl⟩|⟨x,t,rfl,rfl⟩
  .rcases sC m with ⟨j,u,rfl,rfl⟩|⟨y,u,rfl,rfl⟩
   .rw[Z2] at h;exact wpAny_eqBool_int h
   .rw[Z4] at h;exact SeqAt.EqAt.int_str i t y u _ _ _ _ h
  .rcases sC m with ⟨j,u,rfl,rfl⟩|⟨y,u,rfl,rfl⟩
   .rw[Z5] at h;exact SeqAt.EqAt.str_int x t j u _ _ _ _ h
   .rw[Z3] at h;exact wpAny_eqBool_str h
 «strs»:=λk x t v h=>by
  rcases sC h with ⟨i,u,rfl,e⟩|⟨y,u,rfl,e⟩
  .exact nomatch e
  .injection e with e1 _;subst e1;cases v <;> rfl
def Z6(prog:Pg)(w:Wd)(i:Int)(t:Tok):(fb prog w).is (.inl i) Áw=true:=Z0 i t
def Z7(prog:Pg)(w:Wd)(x:Str)(t:Tok):(fb prog w).is (.inr x) (.str x t)=true:=Z1 x t
inductive V where
 |aL|bl (b:Bool)|int (i:Int)|str (x:Str)|jn (b:Array UInt8)|A8 (b:UInt64)|ref (a:Addr)|ty (n:String)
 deriving DecidableEq
abbrev au:=List V
def RelV:V->Value->Prop
 |.aL,u=>u=Value.none
 |.bl b,u=>u=Value.bool b
 |.int i,u=>∃t,u=Value.int i t
 |.str x,u=>∃t,u=Value.str x t
 |.jn b,u=>∃t,u=Value.bytes b t
 |.A8 b,u=>∃t,u=Value.float b t
 |.ref a,u=>u=Value.ref a
 |.ty n,u=>u=Value.type n
abbrev bh:au->LV->Prop:=Paired RelV
def bh.length{xs:au}{U:LV}(r:bh xs U):xs.length=U.length:=Paired.length r
theorem bh.get:∀{xs:au}{U:LV}{i:Nat}{x:V},bh xs U->xs[i]? =some x->∃u,U[i]? =some u/\RelV x u:=by
 intro xs U i x h;induction h generalizing i with
 |nil=>intro e;simp at e
 |cons r t I=>
  intro e;cases i with
  |zero=>simp at e;subst e;exact(_,Á,r)
  |succ i=>exact I e
theorem bh.append:∀{xs ys:au}{U W:LV},bh xs U->bh ys W->bh (xs++ys) (U++W):=by
 intro xs ys U W j;induction j with
 |nil=>exact @λs=>s
 |cons r t I=>
  intro s;exact .cons r (I s)
theorem bh.take:∀{xs:au}{U:LV}(n:Nat),bh xs U->bh (xs.take n) (U.take n):=by
 intro xs U n h;induction h generalizing n with
 |nil=>cases n <;> exact .nil
 |cons r t I=>
  cases n with
  |zero=>exact .nil
  |succ n=>exact .cons r (I n)
theorem bh.drop:∀{xs:au}{U:LV}(n:Nat),bh xs U->bh (xs.drop n) (U.drop n):=by
 intro xs U n h;induction h generalizing n with
 |nil=>cases n <;> exact .nil
 |cons r t I=>
  cases n with
  |zero=>exact .cons r t
  |succ n=>exact I n
def jW:Option V->Option Value->Prop
 |some v,some u=>RelV v u
 |none,none=>True
 |_,_=>False
def KV{κ:Type}:List (κ×V)->List (κ×Value)->Prop:=Paired λ(p:κ×V)(q:κ×Value)=>p.1=q.1/\RelV p.2 q.2
def kV:Key->V
 |.inl i=>.int i
 |.inr x=>.str x
inductive HO where
 |lst (xs:au)
 |tup (xs:au)
 |dK (kvs:List (Key×V))|dT (kvs:List (eB×V))
 |set (S:Int->Bool) (n:Nat)
 |ins (C dx:Addr) (fs:List (Str×V))
 |own (x:Addr)
 |xd (fs:List (Str×V))
 |met (f x:Addr)
 |sD (lo hi:Int)
 |cz (o:Obj) (u:HO)
 |gR (ps:Array Value)
 |ext (φ:Heap->Prop)
abbrev Hp:=Addr->Option HO
def upd(H:Hp)(a:Addr)(o:HO):Hp:=λb=>if b=a then some o else H b
def ao{H:Hp}{a:Addr}{o:HO}:Ū o a=some o:=by delta upd;rw[af rfl]
def aq{H:Hp}{a b:Addr}{o:HO}(h:b≠a):Ū o b=H b:=by delta upd;rw[ah h]
def Qi{H:Hp}{a b:Addr}{o u:HO}(h:H a=some o)(h':H b=some u)(d:o≠u):a≠b:=by
 grind
def eQ{H:Hp}{a b:Addr}{o:HO}(h:H a=some o)(h':H b=none):a≠b:=by
 grind
section
variable(P:Pg)(w:Wd)
def fJ(H:Hp)(h:Heap)(a:Addr):HO->Prop
 |.lst xs=>xs.length<=sizeLine/\∃(j:LV)(n:Nat),bh xs j/\h.get? a=some {cls:=.type "list",data:=.seq j.toArray n}
 |.tup xs=>xs.length<=sizeLine/\∃j:LV,bh xs j/\IsTup h a j.toArray
 |.dK kvs=>kvs.length<=sizeLine/\(a==sysModules)=false/\∃vs,KV kvs vs/\h.DictOf Ây a vs
 |.dT kvs=>kvs.length<=sizeLine/\(a==sysModules)=false/\∃xs:List (eB×Addr×Value),
   Paired (λ(p:eB×V)(q:eB×Addr×Value)=>p.1=q.1/\H q.2.1=some (.tup (p.1.map kV))/\RelV p.2 q.2.2) kvs xs/\
   ∃o es ep,h.get? a=some o/\o.ExactDict/\o.data=.dict es ep/\es.toList=xs.map (entryOfKey Çr)/\(xs.map (·.1)).Nodup
 |.set S n=>h.SetOf (intKind P w) a S n
 |.ins C dx fs=>H dx=some (.own a)/\fs.length<=1000/\dx≠a/\h.get? a=some Ãc/\
   ∃mA,h.Ns1 dx mA/\(∀f,jW Ág (mA f))/\PySem.Within mA (fs.map (·.1))
 |.own _=>∃o,h.get? a=some o
 |.xd fs=>∃mA,h.Ns1 a mA/\∀f,jW Ág (mA f)
 |.sD lo hi=>∃t u v,h.get? a=some {cls:=.type "range",data:=.fields #[.int lo t,.int hi u,.int 1 v]}
 |.cz o u=>h.get? a=some o/\fJ H h a u
 |.gR ps=>h.get? a=some {cls:=.none,data:=.fields ps}
 |.met f x=>h.get? a=some (PySem.W.methodObj Ă š)
 |.ext φ=>φ h/\(∃o,h.get? a=some o)/\∀m h2:Heap,φ m->(∀o,m.get? a=some o->h2.get? a=some o)->φ h2
def dX(H:Hp)(h:Heap):Prop:=∀a o,H a=some o->Ày o
end
section
theorem fJ.lt(x:Ày o):a<h.objs.size:=by
 cases o with
 |lst xs=>let(_,_,_,_,e):=x;exact c9 e
 |tup xs=>let(_,_,_,p):=x;exact p.lt
 |dK kvs=>let(_,_,_,_,o,_,_,e,_):=x;exact c9 e
 |dT kvs=>let(_,_,_,_,o,_,_,e,_):=x;exact c9 e
 |set S n=>let(o,_,_,_,e,_):=x;exact c9 e
 |ins C dx fs=>let(_,_,_,e,_):=x;exact c9 e
 |own y=>let(_,e):=x;exact c9 e
 |xd fs=>let(_,(_,_,_,e,_),_):=x;exact c9 e
 |sD lo hi=>let(_,_,_,e):=x;exact c9 e
 |cz O u=>let(e,_):=x;exact c9 e
 |gR ps=>exact c9 (show h.get? a=some _ from x)
 |met f y=>exact c9 (show h.get? a=some _ from x)
 |ext φ=>let(_,(_,e),_):=x;exact c9 e
theorem Paired.md{α β:Type}{F G:α->β->Prop}:∀{l₁:List α}{l₂:List β},Paired F l₁ l₂->(∀a b,F a b->G a b)->Paired G l₁ l₂:=by
 intro l₁ l₂ j;induction j with
 |nil=>exact @λ_=>.nil
 |cons r t I=>
  intro f;exact .cons (f _ _ r) (I f)
theorem fJ.nB(x:Ày o)(k:∀b u,(b=a\/H b=some (.own a))->h.get? b=some u->h'.get? b=some u)(F:∀b,H b=some (.own a)->H' b=some (.own a)) (G:∀b xs,H b=some Ài->H' b=some Ài):fJ P w H' h' a o:=by
 induction o with
 |lst xs=>let(z,j,n,r,e):=x;exact(z,j,n,r,k _ _ ę e)
 |tup xs=>let(z,j,r,O,e,c):=x;exact(z,j,r,O,k _ _ ę e,c)
 |dK kvs=>let(z,y,vs,r,O,es,ep,e,c):=x;exact(z,y,vs,r,O,es,ep,k _ _ ę e,c)
 |dT kvs=>
  let(z,y,xs,r,O,es,ep,e,c):=x;exact(z,y,xs,Paired.md r λp q z=>⟨z.1,G _ _ z.2.1,z.2.2⟩,O,es,ep,k _ _ ę e,c)
 |set S n=>let(O,es,ep,t,e,c):=x;exact(O,es,ep,t,k _ _ ę e,c)
 |ins C dx fs=>
  let(d,z,ne,e,mA,(od,es,ep,m,c),r):=x;exact(F _ d,z,ne,k _ _ ę e,mA,⟨od,es,ep,k _ _ (.inr d) m,c⟩,r)
 |own y=>let(O,e):=x;exact(O,k _ _ ę e)
 |xd fs=>let(mA,(od,es,ep,e,c),r):=x;exact(mA,⟨od,es,ep,k _ _ ę e,c⟩,r)
 |sD lo hi=>let(t,u,v,e):=x;exact(t,u,v,k _ _ ę e)
 |cz O u I=>let(e,q):=x;exact(k _ _ ę e,I q)
 |gR ps=>
  let e:h.get? a=some {cls:=.none,data:=.fields ps}:=x;show h'.get? a=some {cls:=.none,data:=.fields ps};symm
 |met f y=>
  let e:h.get? a=some (PySem.W.methodObj Ă (.ref y)):=x;show h'.get? a=some (PySem.W.methodObj Ă (.ref y));symm
 |ext φ=>let(p,(o,e),st):=x;exact(st _ _ p λo q=>k _ _ ę q,⟨o,k _ _ ę e⟩,st)
def dX.lt(x:ġ h)(e:H a=some o):a<h.objs.size:=(x a o e).lt
theorem dX.fresh(x:ġ h)(e:h.objs.size<=a):H a=none:=by
 cases q:H a with
 |none=>rfl
 |some u=>exact absurd (iB (x.lt q) e) (qQ _)
def dX.kept(x:ġ h)(k:∀b u,h.get? b=some u->h'.get? b=some u):ġ h':=λa o e=>
 (x a o e).nB (λb u _ q=>k b u q) (λ_ q=>q) λ_ _ q=>q
def dX.laid(x:ġ h)(k:∀b u,h.get? b=some u->h'.get? b=some u)(m:h.objs.size<=a)(new:fJ P w (Ū o) h' a o):dX P w (Ū o) h':=λb u e=>by
 let hn:=x.fresh m;by_cases j:b=a
 .subst j;rw[ao] at e;cases e;exact new
 .rw[aq j] at e;exact(x b u e).nB (λc v _ q=>k c v q) (λc q=>by rw[aq Äv];exact q) λc xs q=>by rw[aq Äv];exact q
end
def Rd(H:Hp)(a:Addr)(u:HO):Prop:=H a=some u\/∃o,H a=some Éa
def Rd.ok(r:Rd H a u)(x:ġ h):Ày u:=by
 rcases r with r|⟨o,r⟩
 .exact x a u r
 .let(_,q):=x a _ r;exact q
def uD:Option HO->Prop
 |some (.lst _)=>True
 |some (.dK _)=>True
 |some (.dT _)=>True
 |some (.set _ _)=>True
 |some (.ins _ _ _)=>True
 |some (.ext _)=>True
 |_=>False
section
def dX.write(ok:ġ h)(m:uD (H x))(J:e=x\/H e=some Åj)(k:∀b u,b≠e->h.get? b=some u->h'.get? b=some u)(G:∃u,h'.get? e=some u)(new:fJ P w (Áj o') h' x o'):dX P w (Áj o') h':=λb u q=>by
 let Z:∀c y,H c=some (.own y)->c≠x:=λc y r z=>by subst z;rw[r] at m;exact m
 let I:∀c xs,H c=some Ài->c≠x:=λc xs r z=>by subst z;rw[r] at m;exact m
 by_cases j:b=x
 .subst j;rw[ao] at q;cases q;exact new
 .rw[aq j] at q;by_cases O:b=e
  .let F:H b=some Åj:=by
    symm
   rw[q] at F;cases F;let(v,M):=G;exact(v,by simp_all)
  .apply(ok b u q).nB (λc v hc r=>k c v ?_ r) (λc r=>by rw[aq (Z c b r)];exact r) λc xs r=>by rw[aq (I c xs r)];exact r
   grind
end
structure Un(fs ex:LA)(H H':Hp)(h h':Heap):Prop where
 keep:∀b o,h.get? b=some o->H b=none->b∉fs->b∉ex->h'.get? b=some o
 slot:∀b o,h.get? b=some o->H b=none->b∈fs->b∉ex->∃sl,h'.get? b=some {o with slots:=sl}
 free:∀b o,h.get? b=some o->H b=none->b∉ex->H' b=none
 there:∀b o,h.get? b=some o->b∉ex->∃o',h'.get? b=some o'
 pR:∀b xs,H b=some Ài->H' b=some Ài
 nE:∀b o u,H b=some Éa->H' b=some Éa
 pU:∀b ps,H b=some (.gR ps)->∃jk,H' b=some (.gR (ps++jk))
section
def Un.any(u:Un fs ex H H1 h h1){b:Addr}{O:Obj}(q:h.get? b=some O)(n:H b=none)(m:b∉ex):∃sl,h1.get? b=some {O with slots:=sl}:=by
 by_cases j:b∈fs
 .exact u.slot b O q n j m
 .exact(O.slots,u.keep b O q n j m)
def Un.kept(k:∀b u,h.get? b=some u->h'.get? b=some u):Un fs ex H H h h':=
 ⟨λb O q _ _ _=>k b O q,λb O q _ _ _=>⟨O.slots,k b O q⟩,λ_ _ _ n _=>n,λb O q _=>⟨O,k b O q⟩,λ_ _ q=>q,λ_ _ _ q=>q,λ_ ps q=>⟨#[],by rw[q];simp⟩⟩
def Un.refl:Un fs ex H H h h:=Un.kept λ_ _ q=>q
def Un.laid(k:∀b u,h.get? b=some u->h'.get? b=some u)(j:h.objs.size<=a)(hn:H a=none):Un fs ex H (Ū o) h h' where
 keep:=λb u q _ _ _=>k b u q
 slot:=λb u q _ _ _=>⟨u.slots,k b u q⟩
 free:=λb u q n _=>by rw[aq (ft (iB (c9 q) j))];exact n
 there:=λb u q _=>⟨u,k b u q⟩
 pR:=λb xs q=>by rw[aq Äv];exact q
 nE:=λb u xs q=>by rw[aq Äv];exact q
 pU:=λb ps q=>⟨#[],by rw[aq Äv,q];simp⟩
def Un.write(m:uD (H x))(J:e=x\/H e=some Åj)(k:∀b u,b≠e->h.get? b=some u->h'.get? b=some u)(I:∃u,h'.get? e=some u):Un fs ex H (Áj o) h h':=by
 let G:∀b,H b=none->b≠x:=λb n z=>by subst z;rw[n] at m;exact m
 let F:∀b,H b=none->b≠e:=λb n z=>by
  symm
 let j:∀b u,H b=some u->¬uD Âu->b≠x:=λb u q nm z=>by subst z;rw[q] at m;exact nm m
 apply⟨λb u q n _ _=>k b u (F b n) q,λb u q n _ _=>⟨u.slots,k b u (F b n) q⟩,λb u q n _=>by rw[aq (G b n)];exact n,λb u q _=>?_,
  λb xs q=>by rw[aq (j b _ q λz=>z)];exact q,λb u xs q=>by rw[aq (j b _ q λz=>z)];exact q,λb ps q=>⟨#[],by rw[aq (j b _ q λz=>z),q];simp⟩⟩
 grind
end
def D1(h:Heap)(H:Hp):LA:=(List.range h.objs.size).filter λa=>(H a).isSome
def uE(h:Heap)(H:Hp):Heap:=PySem.W.hideAll h (D1 h H)
def aaa(h:Heap)(H:Hp):(uE h H).objs.size=h.objs.size:=PySem.W.hideAll_size _ _
def aab(e:h.get? b=some o)(n:H b=none):(uE h H).get? b=some o:=
 PySem.W.hideAll_get _ e λj=>by
  let q:(H b).isSome=true:=(kJ.mp j).2;rw[n] at q;simp at q
def aac(e:(uE h H).get? b=some o):h.get? b=some o/\H b=none:=by
 let j:h.get? b=some o:=PySem.W.of_hideAll (D1 h H) e;apply(j,?_);cases q:H b with
 |none=>rfl
 |some x=>
  let m:b∈D1 h H:=kJ.mpr ⟨AV.mpr (c9 j),by simp[q]⟩;let z:(uE h H).get? b=none:=PySem.W.hideAll_none (D1 h H) m;symm
structure Mod(K:FR)(mg:MG)(base:Heap):Prop where
 sE:K.In base
 glob:base.Ns mainGlobals mg
 blt:∃mb,base.Ns builtinsNs mb/\∀x:Str,x≠"__name__"->mb x=bootBuiltins x
 nolimit:base.NoLimit
structure Cx where
 prog:Program
 w:World
 K:FR
 mg:Str->Option Value
 base:Heap
 A:Around
 N:LS
 ic:Shared
 qV:Hp
 env:Env
 outer:List Env
 stack:List Env
 ex:LA
 fn:Str->Bool
 calm:Bool
 pn:bJ
 xe:VP
def nF(l:List Env):LA:=l.filterMap (·.frame)
abbrev Cx.fs(X:Cx):LA:=nF X.outer
def xx(S:Scope)(x:Str):Prop:=S.names.lookup x=some .local\/S.names.lookup x=some .cell\/S.names.lookup x=some .free
def Loc(S:Scope)(x:Str):Prop:=S.names.lookup x=some .local\/S.names.lookup x=some .cell
def Look(env:Env)(h:Heap)(m:MG)(x:Str)(u:Value):Prop:=
 (env.kindOf x=some .local/\m x=some u)\/((env.kindOf x=some .cell\/env.kindOf x=some .free)/\∃c,env.cells.lookup x=some c/\h.IsCell c Âu)
structure Cx.Ok(X:Cx):Prop where
 mod:Mod X.K X.mg X.base
 kind:X.env.scope.kind=.function
 glob:X.env.globals=mainGlobals
 blt:X.env.builtins=builtinsNs
 above:X.ic.heap.objs.size<=X.env.locals
 inj:∀x y c,X.env.cells.lookup x=some c->X.env.cells.lookup y=some c->x=y
 has:∀x,(X.env.kindOf x=some .cell\/X.env.kindOf x=some .free)->∃c,X.env.cells.lookup x=some c
 xy:∀x c,X.fn x=true->X.env.cells.lookup x=some c->X.ic.heap.objs.size<=c
 hd:X.calm=true->X.A.handled=none
 frames:X.A.frames=some X.stack
 Ba:X.stack=X.outer\/(X.stack=X.env::X.outer/\X.env.frame=some X.env.locals)
 Bb:∀b∈X.ex,b≠X.env.locals/\∀x c,X.env.cells.lookup x=some c->c≠b
 bs:∀b o,X.base.get? b=some o->X.ic.heap.get? b=some o/\X.qV b=none
 nG:X.base.objs.size<=X.ic.heap.objs.size
 yX:∀b o,X.base.get? b=some o->b∉X.ex
 yY:∀b∈X.ex,b∉X.fs
 k7:X.ic.heap.FunFrames X.base X.outer
 pV:∀b∈X.fs,X.qV b=none
structure Inv(X:Cx)(pins:bJ)(σ:List (Option V))(H:Hp)(s:Sh):Prop where
 ok:X.Ok
 os:s.os=X.ic.os
 bare:AllBare s.gens
 base:Un X.fs X.ex X.qV H X.ic.heap s.heap
 loc:∃m,s.heap.Ns X.env.locals m/\∀(i:Nat)(x:Str)(v:V),X.N[i]? =some x->σ[i]? =some Ãt->xx X.env.scope x->∃u,RelV v u/\Look X.env s.heap m x u
 cell:∀x c,X.env.cells.lookup x=some c->∃v,s.heap.IsCell c v
 free:H X.env.locals=none
 k8:∀x c,X.env.cells.lookup x=some c->H c=none
 pin:∀p∈X.pn++pins,s.heap.get? p.1=some p.2/\H p.1=none/\p.1≠X.env.locals/\p.1∉X.fs/\∀v,p.2.data≠ .cell v
 ax:Àd H s.heap
 len:σ.length=X.N.length
section
variable{X:Cx}{pins:bJ}{σ:List (Option V)}{H H':Hp}{s:Sh}{h':Heap}
def Cx.Ok.aad(ok:X.Ok)(e:X.base.get? b=some o):b∉X.fs:=λj=>by
 let:=(ok.k7.mem j).1;symm
def Inv.bs(I:Ã H s):∀b o,X.base.get? b=some o->s.heap.get? b=some o/\H b=none:=λb o e=>
 ⟨I.base.keep b o (I.ok.bs b o e).1 (I.ok.bs b o e).2 (I.ok.aad e) (I.ok.yX b o e),I.base.free b o (I.ok.bs b o e).1 (I.ok.bs b o e).2 (I.ok.yX b o e)⟩
def Inv.bk(I:Ã H s):∀b o,X.base.get? b=some o->s.heap.get? b=some o:=λb o e=>(I.bs b o e).1
def Inv.mod(I:Ã H s):Mod X.K X.mg X.base:=I.ok.mod
def Inv.fO(I:Ã H s):X.K.In s.heap:=I.ok.mod.sE.keeps I.bk
def Inv.fr(I:Ã H s):∃m,Fr X.base X.env.locals s.heap m:=
 let ⟨m,hn,_⟩:=I.loc
 ⟨m,hn,I.bk,ia I.ok.nG I.ok.above⟩
def Inv.lt(I:Ã H s):X.env.locals<s.heap.objs.size:=let ⟨_,hn,_⟩:=I.loc;hn.lt
def Inv.sz(I:Ã H s):X.ic.heap.objs.size<=s.heap.objs.size:=ia I.ok.above (pN I.lt)
def Inv.aae(I:Ã H s)(h:s.heap.objs.size<=a):a∉X.fs:=λj=>by
 let(_,o,m,_):=I.ok.k7.mem j;exact absurd (iB (c9 m) (ia I.sz h)) (qQ _)
def Inv.vG(I:Ã H s):∀x c,X.env.cells.lookup x=some c->c≠X.env.locals:=λx c e z=>by
 let(v,o,j,hd):=I.cell x c e;let(m,(O,es,ep,F,G,_),_):=I.loc;symm
def Inv.k7(I:Ã H s):s.heap.FunFrames X.base X.outer:=by
 let all:∀(l:List Env),(∀b∈nF l,b∈X.fs)->X.ic.heap.FunFrames X.base l->s.heap.FunFrames X.base l:=by
  intro l;induction l with
  |nil=>intro _ _;trivial
  |cons env r O=>
   intro hs G;let(hk,(L,o,F,J,M,hd),hr):=G;let j:L∈X.fs:=hs L (by delta nF;rw[DI,F];exact fG);let(sl,e):=I.base.slot L o M (I.ok.pV L j) j λz=>I.ok.yY L z j;exact(hk,⟨L,_,F,J,e,hd⟩,O (λb m=>hs b (by delta nF;rw[DI,F];exact aP _ m)) hr)
 exact all X.outer (λ_ m=>m) I.ok.k7
def Inv.stack(I:Ã H s):s.heap.FunFrames X.base X.stack:=by
 rcases I.ok.Ba with e|⟨e,j⟩
 .rw[e];exact I.k7
 .rw[e];let(m,z,_):=I.loc;apply .cons (by rw[I.ok.kind];decide) j z ?_ I.k7;exact Pp (ia I.ok.nG I.ok.above)
def Inv.Bc(I:Ã H s):∀b∈nF X.stack,b∈X.env.locals::X.fs:=λb j=>by
 rcases I.ok.Ba with e|⟨e,m⟩
 .symm
 .rw[e] at j;delta nF at j;rw[DI,m] at j;exact j
def Inv.D4(I:Ã H s):∀b∈nF X.stack,H b=none:=λb j=>by
 rcases a0.mp (I.Bc b j) with e|j
 .rw[e];exact I.free
 .let(_,o,m,_):=I.ok.k7.mem j;exact I.base.free b o m (I.ok.pV b j) λz=>I.ok.yY b z j
def Inv.step{g':Array GenState}{t':Nat}{d':Drawn}{ch:LA}(I:Ã H s)(O:∀b∈ch,(b∈X.ex\/X.ic.heap.objs.size<=b)/\b≠X.env.locals/\(∀x c,X.env.cells.lookup x=some c->c≠b)/\∀p∈X.pn++pins,p.1≠b)(keep:∀b o,b≠X.env.locals->b∉X.fs->b∉ch->s.heap.get? b=some o->H b=none->h'.get? b=some o)(slot:∀b o,b≠X.env.locals->b∈X.fs->b∉ch->s.heap.get? b=some o->H b=none->∃sl,h'.get? b=some {o with slots:=sl}) (free:∀b o,b∉ch->s.heap.get? b=some o->H b=none->H' b=none)(there:∀b o,b∉ch->s.heap.get? b=some o->∃J,h'.get? b=some J)(pR:∀b xs,H b=some Ài->H' b=some Ài) (nE:∀b o u,H b=some Éa->H' b=some Éa) (pU:∀b ps,H b=some (.gR ps)->∃jk,H' b=some (.gR (ps++jk)))(ns:∀m,s.heap.Ns X.env.locals m->h'.Ns X.env.locals m) (ax:Àd H' h') (hg:AllBare g'):
  Inv X pins σ H' {s with heap:=h',gens:=g',drawn:=d',toks:=t'}:=by
 let U:∀b o,X.ic.heap.get? b=some o->b≠X.env.locals:=λb o e=>ft Ϸ;let M:∀b o,X.ic.heap.get? b=some o->b∉X.ex->b∉ch:=λb o e hx hb=>by
  rcases(O b hb).1 with z|z
  .symm
  .exact absurd (iB (c9 e) z) (qQ _)
 let S:∀x c,X.env.cells.lookup x=some c->∀v,s.heap.IsCell c v->h'.IsCell c v:=λx c e v ⟨o,F,hd⟩=>by
  let G:c∉ch:=λz=>(O c z).2.2.1 x c e rfl;by_cases hc:c∈X.fs
  .let(sl,q):=slot c o (I.vG x c e) hc G F Çj;exact(_,q,hd)
  .exact(o,keep c o (I.vG x c e) hc G F Çj,hd)
 apply(I.ok,I.os,hg,⟨λb o e n hb hx=>?_,λb o e n hb hx=>?_,λb o e n hx=>?_,λb o e hx=>?_,λb xs e=>pR b xs (I.base.pR b xs e),λb o xs e=>nE b o xs (I.base.nE b o xs e),λb ps e=>?_⟩,?_,λx c e=>?_,?_,λx c e=>?_,λp Y=>?_,ax,I.len)
 .exact keep b o (U b o e) hb (M b o e hx) Àx ϩ
 .let(sl,j):=I.base.slot b o e n hb hx;let(sl',W):=slot b _ (U b o e) hb (M b o e hx) j ϩ;symm
 .let(J,j):=I.base.there b o e hx;exact free b J (M b o e hx) j ϩ
 .let(J,j):=I.base.there b o e hx;symm
 .let(m1,j):=I.base.pU b ps e;grind
 .let(m,hn,hl):=I.loc;apply(m,ns m hn,λi x v j W e3=>?_);let(u,r,l):=hl i x v j W e3;apply(u,r,?_);rcases l with l|⟨k,c,e,z⟩
  .exact .inl l
  .exact .inr ⟨k,c,e,S x c e _ z⟩
 .let(v,z):=I.cell x c e;grind
 .let(m,(o,_,_,F,_),_):=I.loc;exact free _ o (λz=>(O _ z).2.1 Á) F I.free
 .let(v,o,F,hd):=I.cell x c e;exact free c o (λz=>(O c z).2.2.1 x c e Á) F Çj
 .let(e,n,ne,Z,d):=I.pin p Y;let G:p.1∉ch:=λz=>(O p.1 z).2.2.2 p Y rfl;exact(keep p.1 p.2 ne Z G e n,free p.1 p.2 G e n,ne,Z,d)
def Inv.un{t':Nat}(I:Ã H s)(u:Un X.fs [] H H' s.heap h')(ax:Àd H' h'):Ã H' {s with heap:=h',toks:=t'}:=by
 let(m,(o,es,ep,F,r),_):=id I.loc;let(sl,J):=u.any F I.free Ä;exact I.step (g':=s.gens) (d':=s.drawn) (ch:=[]) (λ_ z=>nomatch z) (λb o _ j _ e n=>u.keep b o e n j Ä) (λb o _ j _ e n=>u.slot b o e n j Ä) (λb o _ e n=>u.free b o e n Ä) (λb o _ e=>u.there b o e Ä) u.pR u.nE u.pU (λW M=>by
  let(Y,O,U,G,S):=M;rw[F] at G;cases G;exact(_,O,U,J,S)) ax I.bare
def Inv.call{g':Array GenState}{t':Nat}{d':Drawn}{ch:LA}(I:Ã H s)(u:Un (nF X.stack) ch H H' s.heap h')(ax:Àd H' h')(M:AllBare g')(O:∀b∈ch,(b∈X.ex\/X.ic.heap.objs.size<=b)/\b≠X.env.locals/\(∀x c,X.env.cells.lookup x=some c->c≠b)/\∀p∈X.pn++pins,p.1≠b):
  Inv X pins σ H' {s with heap:=h',gens:=g',drawn:=d',toks:=t'}:=by
 let(m,(o,es,ep,F,r),_):=id I.loc;let(sl,j):=u.any F I.free λz=>(O _ z).2.1 rfl;exact I.step (ch:=ch) O (λb o j J hc e n=>u.keep b o e n (λz=>(a0.mp (I.Bc b z)).elim j J) hc) (λb o _ _ hc e n=>u.any e n hc) (λb o hc e n=>u.free b o e n hc) (λb o hc e=>u.there b o e hc) u.pR u.nE u.pU (λZ S=>by
  let(o',U,Y,G,W):=S;rw[F] at G;cases G;exact(_,U,Y,j,W)) ax M
def Inv.turned{t':Nat}{j:Addr}(I:Ã H s)(k:∀b o,b≠j->s.heap.get? b=some o->h'.get? b=some o)(O:H j=none)(F:j≠X.env.locals)(J:j∈X.ex\/X.ic.heap.objs.size<=j) (h2:∀x c,X.env.cells.lookup x=some c->c≠j) (M:∀p∈X.pn++pins,p.1≠j):Ã H {s with heap:=h',toks:=t'}:=by
 let G:∀b u,H b=some u->b≠j:=λb u e z=>by rw[z,O] at e;cases e
 refine I.step (g':=s.gens) (d':=s.drawn) (ch:=[j]) đ (λb o _ _ hc e _=>k b o (λz=>hc (by simp[z])) e) (λb o _ _ hc e _=>⟨o.slots,k b o (λz=>hc (by simp[z])) e⟩) (λ_ _ _ _ n=>n)
  (λb o hc e=>⟨o,k b o (λz=>hc (by simp[z])) e⟩) (λ_ _ e=>e) (λ_ _ _ e=>e) (λb ps e=>⟨#[],by rw[e];simp⟩) Æi (λb u e=>?_) I.bare
 .let e:b=j:=by simpa using hb
  subst e;exact(J,F,h2,M)
 .let(o,es,ep,S,r):=hm;exact(o,es,ep,k _ o (d8 F) S,r)
 .refine(I.ax b u e).nB Âa (λ_ q=>q) λ_ _ q=>q;rcases hc with z|z
  .rw[z];exact G b u e
  .exact G c _ z
def Inv.tok(I:Ã H s)(t:Nat):Ã H {s with toks:=t}:=I.un (h':=s.heap) (t':=t) Un.refl I.ax
def Inv.kept{t':Nat}(I:Ã H s)(k:∀b u,s.heap.get? b=some u->h'.get? b=some u):Ã H {s with heap:=h',toks:=t'}:=I.un (Un.kept k) (I.ax.kept k)
def Inv.laid{a:Addr}{o:HO}{t':Nat}(I:Ã H s)(k:∀b u,s.heap.get? b=some u->h'.get? b=some u)(j:s.heap.objs.size<=a)(new:Àc (Ū o) h' a o):
  Inv X pins σ (Ū o) {s with heap:=h',toks:=t'}:=I.un (Un.laid k j (I.ax.fresh j)) (I.ax.laid k j new)
def Inv.write{x e:Addr}{o:HO}{t':Nat}(I:Ã H s)(M:uD (H x))(m:e=x\/H e=some Åj)(k:∀b u,b≠e->s.heap.get? b=some u->h'.get? b=some u)(j:∃u,h'.get? e=some u)(new:Àc (Áj o) h' x o):Ã (Áj o) {s with heap:=h',toks:=t'}:=I.un (Un.write M m k j) (I.ax.write M m k j new)
def Inv.weak(I:Ã H s)(G:σ'.length=σ.length)(w:∀(i:Nat)v,σ'[i]? =some Ãt->σ[i]? =some Ãt):Inv X pins σ' H s:=
 ⟨I.ok,I.os,I.bare,I.base,let ⟨m,hn,Iu⟩:=I.loc;⟨m,hn,λi x v j z F=>Iu i x v j (w i v z) F⟩,I.cell,I.free,I.k8,I.pin,I.ax,G.trans I.len⟩
def Inv.Iv(I:Ã H s)(h:∀p∈aaf,s.heap.get? p.1=some p.2/\H p.1=none/\p.1≠X.env.locals/\p.1∉X.fs/\∀v,p.2.data≠ .cell v):Inv X aaf σ H s:=
 ⟨I.ok,I.os,I.bare,I.base,I.loc,I.cell,I.free,I.k8,λp j=>(gQ.mp j).elim (λz=>I.pin p (AW _ z)) (h p),I.ax,I.len⟩
def Iw{N:LS}(F:N.Nodup){i j:Nat}{x:Str}(a:N[i]? =some x)(b:N[j]? =some x):i=j:=by
 let(G,m):=bH.mp a;let(h2,z):=bH.mp b;exact(YH F).mp (m.trans z.symm)
def Qk{E:VP}{Q:Unit->Shared->Prop}(I:Ã H s)(hN:X.N.Nodup)(hi:X.N[i]? =some x)(hx:Loc X.env.scope x)(r:RelV v u)(h:∀s',Inv X pins Ľ H s'->(∃a,Heap.SameBut a s.heap s'.heap/\(a=X.env.locals\/X.env.cells.lookup x=some a))->Q () s') (hf:X.fn x=true\/X.env.scope.names.lookup x=some .local:=by first|exact .inl Á|exact .inr Á|assumption):Ϗ (storeName X.env x u) Q E s:=by
 let(m,W,hl):=id I.loc;let A6:(X.env.scope.kind== .class||(X.env.scope.kind== .module&&X.env.locals !=X.env.globals))=false:=by rw[I.ok.kind];rfl
 let O:i<σ.length:=by rw[I.len];exact(bH.mp hi).1
 let vG:=I.vG;let Yt:∀{a:Addr}{h':Heap},(∃o,s.heap.get? a=some o/\H a=none)->Heap.SameBut a s.heap h'->Àd H h':=λ{a h'}ha hs b ob e=>by
  let(_,_,D5):=ha;apply(I.ax b ob e).nB (λc w' hc q=>(hs.2 c ?_).trans q) (λ_ q=>q) λ_ _ q=>q;grind
 rcases hx with hk|hk
 .apply wpAny_storeName_local hk W (λh' Be hs=>?_) A6;let(oL,_,_,Y,_):=id W;apply h _ ⟨I.ok,I.os,I.bare,⟨λb o e n hb hx=>?_,λb o e n hb hx=>?_,I.base.free,λb o e hx=>?_,I.base.pR,I.base.nE,I.base.pU⟩,⟨_,Be,λj y v' F G U=>?_⟩,λy c e=>?_,I.free,I.k8,λp hp=>?_,Yt ⟨oL,Y,I.free⟩ hs,by simpa using I.len⟩ ⟨_,hs,.inl Á⟩
  .exact(hs.2 b (ft Ϸ)).trans Àx
  .let(sl,F):=I.base.slot b o e n hb hx;exact(sl,(hs.2 b (ft Ϸ)).trans F)
  .let(o',F):=I.base.there b o e hx;exact(o',(hs.2 b (ft Ϸ)).trans F)
  .by_cases J:j=i
   .subst J;rw[hi] at F;cases F;rw[YI O] at G;cases G;exact(u,r,.inl ⟨hk,by simp⟩)
   .rw[YJ (d8 J)] at G;let(u',r',q):=hl j y v' F G U;apply(u',r',?_);rcases q with ⟨k,e⟩|⟨k,c,e,z⟩
    .apply .inl ⟨k,?_⟩;let:y≠x:=λe=>J (Iw hN F (e▸ hi));symm
    .exact .inr ⟨k,c,e,z.sameBut hs (vG y c e)⟩
  .let(w',z):=I.cell y c e;exact(w',z.sameBut hs (vG y c e))
  .let(e,n,ne,nf,d):=I.pin p hp;exact((hs.2 p.1 ne).trans e,n,ne,nf,d)
 .let Iy:X.fn x=true:=by
   symm
  let(c,hc):=I.ok.has x (.inl hk);let(w',z):=I.cell x c hc;apply wpAny_storeName_cell I.ok.kind hk hc z (λh' Bf hs=>?_);let(oc,Z,aqP):=id z;apply h {s with heap:=h'} ⟨I.ok,I.os,I.bare,⟨λb o e n hb hx=>?_,λb o e n hb hx=>?_,I.base.free,λb o e hx=>?_,I.base.pR,I.base.nE,I.base.pU⟩,⟨m,W.sameBut hs (d8 (vG x c hc)),λj y v' F G U=>?_⟩,λy S e=>?_,I.free,I.k8,λp hp=>?_,Yt ⟨oc,Z,I.k8 x c hc⟩ hs,À I.len⟩ ⟨c,hs,.inr hc⟩
  .exact(hs.2 b ϙ).trans Àx
  .let(sl,F):=I.base.slot b o e n hb hx;exact(sl,(hs.2 b ϙ).trans F)
  .let(o',F):=I.base.there b o e hx;exact(o',(hs.2 b ϙ).trans F)
  .by_cases J:j=i
   .subst J;rw[hi] at F;cases F;rw[YI O] at G;cases G;exact(u,r,.inr ⟨.inl hk,c,hc,Bf⟩)
   .rw[YJ (d8 J)] at G;let(u',r',q):=hl j y v' F G U;apply(u',r',?_);rcases q with q|⟨k,S,e,z'⟩
    .exact .inl q
    .apply .inr ⟨k,S,e,z'.sameBut hs ?_⟩;rintro rfl;exact J (Iw hN F (I.ok.inj _ _ _ e hc▸ hi))
  .by_cases jo:S=c
   .grind
   .let(w2,z2):=I.cell y S e;exact(w2,z2.sameBut hs jo)
  .let(e,n,ne,nf,d):=I.pin p hp;apply((hs.2 p.1 ?_).trans e,n,ne,nf,d);grind
def D6(I:Ã H s)(m:X.N.Nodup)(hi:X.N[i]? =some x)(F:Loc X.env.scope x)(r:RelV v u)(h:∀s',Inv X pins Ľ H s'->Q () s') (z:X.fn x=true\/X.env.scope.names.lookup x=some .local:=by first|exact .inl Á|exact .inr Á|assumption):Ϗ (storeName X.env x u) Q E s:=
 Qk I m hi F r (λs' j _=>h s' j) z
def Inv.vI{s':Sh}{ch:LA}(I:Ã H s)(m:s'.os=s.os)(u:Un (nF X.stack) ch H H' s.heap s'.heap)(ax:Àd H' s'.heap)(j:AllBare s'.gens)(z:∀b∈ch,(b∈X.ex\/X.ic.heap.objs.size<=b)/\b≠X.env.locals/\(∀x c,X.env.cells.lookup x=some c->c≠b)/\∀p∈X.pn++pins,p.1≠b):Ã H' s':=by
 let(h',g',d',t',O):=s';let e:O=s.os:=m;subst e;exact I.call (g':=g') (t':=t') (d':=d') u ax j z
end
abbrev XK:=Value->OA->Hp->Prop
abbrev St:=List (Option V)
abbrev VK:=V->Hp->Prop
abbrev TE:=St->Hp->VK->Prop
abbrev TT:=St->Hp->(Bool->Hp->Prop)->Prop
abbrev TA:=St->Hp->(au->Hp->Prop)->Prop
structure Ends where
 nx:St->Hp->Prop
 rt:VK
 bk:St->Hp->Prop:=λ_ _=>False
 ct:St->Hp->Prop:=λ_ _=>False
abbrev TS:=Ends->St->Hp->Prop
inductive EP(X:Cx)(pins:bJ)(σ:St)(Q:VK)(u:Value)(s':Sh):Prop
 |mk (v:V) (H':Hp) (_:Ã H' s') (_:RelV v u) (_:Q v H')
inductive TP(X:Cx)(pins:bJ)(σ:St)(Q:Bool->Hp->Prop)(b:Bool)(s':Sh):Prop
 |mk (H':Hp) (_:Ã H' s') (_:Q b H')
inductive AP(X:Cx)(pins:bJ)(σ:St)(Q:au->Hp->Prop)(us:LV)(s':Sh):Prop
 |mk (vs:au) (H':Hp) (_:Ã H' s') (_:bh vs us) (_:Q vs H')
inductive WP(X:Cx)(pins:bJ)(Q:St->Hp->Prop)(s':Sh):Prop
 |mk (σ':St) (H':Hp) (_:Ϯ s') (_:Q σ' H')
def SP(X:Cx)(pins:bJ)(D:Ends)(f:Flow)(s':Sh):Prop:=
 match f with
 |.next=>WP X pins D.nx s'
 |.brk=>WP X pins D.bk s'
 |.cont=>WP X pins D.ct s'
 |.ret u=>∃v σ' H',Ϯ s'/\RelV v u/\D.rt v H'
def PE(X:Cx)(e:Expr)(t:TE):Prop:=
 ∀(pins:bJ)(s:Sh)(σ:St)(H:Hp)(Q:VK),Ã H s->t σ H Q->wpAny È X.A Ϛ (ò Q) X.xe s
def PT(X:Cx)(e:Expr)(t:TT):Prop:=
 ∀(pins:bJ)(s:Sh)(σ:St)(H:Hp)(Q:Bool->Hp->Prop),Ã H s->t σ H Q->wpAny È X.A (isTrue e X.env Ϛ) Ãb X.xe s
def PW(X:Cx)(e:Expr)(t:TT):Prop:=
 ∀(whole:Sem Value)(pins:bJ)(s:Sh)(σ:St)(H:Hp)(Q:Bool->Hp->Prop),Ã H s->t σ H Q->wpAny È X.A (isTrue e X.env whole) Ãb X.xe s
def PW.pt(h:PW X e t):PT X e t:=h _
def PA(X:Cx)(es:List Expr)(t:TA):Prop:=
 ∀(pos:Pos)(pins:bJ)(s:Sh)(σ:St)(H:Hp)(Q:au->Hp->Prop),Ã H s->t σ H Q->wpAny È X.A (spliced (backTo pos õ)) (AP X pins σ Q) X.xe s
def PS(X:Cx)(st:Stmt)(t:TS):Prop:=
 ∀(pins:bJ)(s:Sh)(σ:St)(H:Hp)(D:Ends),Ã H s->t D σ H->wpAny È X.A (exec st X.env) Åt X.xe s
def k9(X:Cx)(st:List Stmt)(t:TS):Prop:=
 ∀(pins:bJ)(s:Sh)(σ:St)(H:Hp)(D:Ends),Ã H s->t D σ H->wpAny È X.A (execs st X.env) Åt X.xe s
def aN{α:Type}{t:Sem α}{Q j:α->Shared->Prop}{M:Model}{A:Around}{E:VP}{s:Sh}(h:Ϗ t Q E s)(m:∀a s,Q a s->j a s):Ϗ t j E s:=i6 h m λ_ _ x=>x
section
inductive ay(i:Nat)(σ:St)(H:Hp)(Q:VK):Prop
 |mk (v:_) (_:σ[i]? =some Ãt) (_:Q v H)
def tC(v:V):TE:=λ_ H Q=>Q v H
def Ql(j:X.N[i]? =some x)(J:xx X.env.scope x)(hd:(x==("__debug__":Str))=false:=by decide)(M:(x==("__classdict__":Str))=false:=by decide):PE X Ϻ (ay i):=by
 show Ò;let(v,e,h):=h;let(m,G,z):=I.loc;let(u,r,l):=z i x v j e J;let fin:ò Q u s:=⟨v,H,I,r,h⟩;rcases l with ⟨hk,F⟩|⟨hk,c,hc,Y⟩
 .exact wpAny_Name (wpAny_loadName_local I.ok.kind hk G F fin) hd
 .rcases hk with hk|hk
  .exact wpAny_Name (wpAny_loadName_cell I.ok.kind hk hc Y fin) hd
  .exact wpAny_Name (wpAny_loadName_free I.ok.kind hk hc Y fin M) hd
def bp{i j pos}:PE X (.Constant Ãe j pos) (tC Ãe):=λ_ _ _ H _ I h=>wpAny_Constant_int ⟨.int i,H,I.tok _,⟨_,rfl⟩,h⟩
def y4{b j pos}:PE X (.Constant (.bool b) j pos) (tC (.bl b)):=λ_ _ _ H _ I h=>Constant_bool ⟨.bl b,H,I,rfl,h⟩
def qW{j pos}:PE X (.Constant .none j pos) (tC .aL):=λ_ _ _ H _ I h=>Pq ⟨.aL,H,I,rfl,h⟩
def D7{x j pos}:PE X (.Constant Çl j pos) (tC Çl):=λ_ _ _ H _ I h=>Calls.Constant_str ⟨.str x,H,I.tok _,⟨_,rfl⟩,h⟩
def Gl(X:Cx)(x:Str):Prop:=X.env.kindOf x=some .globalImplicit
def vJ(I:Ã H s)(j:Gl X x)(m:X.mg x=some u)(h:Q u s)(hd:(x==("__debug__":Str))=false:=by decide):wpAny È X.A (eval Ϻ X.env) Q E s:=
 apV I.ok.kind j (Calls.loadGlobal_global (by rw[I.ok.glob];exact I.mod.glob.keeps I.bk) m h) hd
def vK{E:VP}{pins:bJ}{s:Sh}{σ:St}{H:Hp}{x:Str}{u:Value}{pos:Pos}{Q:VP}(I:Ã H s)(m:Gl X x)(z:X.mg x=none)(G:bootBuiltins x=some u)(h:Q u s)(F:x≠"__name__":=by decide) (hd:(x==("__debug__":Str))=false:=by decide):wpAny È X.A (eval Ϻ X.env) Q E s:=by
 let(M,j,h2):=I.mod.blt;exact apV I.ok.kind m (Calls.loadGlobal_builtin (by rw[I.ok.glob];exact I.mod.glob.keeps I.bk) z (by rw[I.ok.blt];exact j.keeps I.bk) ((h2 x F).trans G) h) hd
def uF(j:Gl X x)(m:X.mg x=some u)(r:RelV v u)(hd:(x==("__debug__":Str))=false:=by decide):PE X Ϻ (tC v):=
 λ_ _ _ H _ I h=>vJ I j m ⟨v,H,I,r,h⟩ hd
def PC(X:Cx)(op:CmpOp)(a b:Expr)(t:TE):Prop:=
 ∀(pins:bJ)(s:Sh)(σ:St)(H:Hp)(Q:VK),Ã H s->t σ H Q->
  wpAny È X.A (eval a X.env) (λv S=>wpAny È X.A (eval b X.env) (λu j=>wpAny È X.A (compareOp op v u) (ò Q) X.xe j) X.xe S) X.xe s
def Qm(b:Expr)(h:op≠ .In)(h2:op≠ .NotIn):behindInMarks op b=false:=by
 let j:(op==CmpOp.In)=false:=by cases op <;> first|rfl|exact absurd Á h
 let m:(op==CmpOp.NotIn)=false:=by cases op <;> first|rfl|exact absurd Á h2
 cases b <;> simp[behindInMarks,j,m]
def aai(ta:TE):TE:=λσ H Q=>ta σ H λx H1=>Q (.bl (decide (x=.aL))) H1
def Qn(ta:TE):TE:=λσ H Q=>ta σ H λx H1=>Q (.bl (!decide (x=.aL))) H1
theorem RelV.Iz(r:RelV x v):(v==Value.none)=decide (x=.aL):=by
 cases x with
 |aL=>cases r;rfl
 |bl _=>cases r;rfl
 |int _=>let(t,rfl):=r;rfl
 |str _=>let(t,rfl):=r;rfl
 |jn _=>let(t,rfl):=r;rfl
 |A8 _=>let(t,rfl):=r;rfl
 |ref _=>cases r;rfl
 |ty _=>cases r;rfl
def qX{j jU}(z:ϣ ta):PC X .Is a Ãf (aai ta):=by
 show Ò;apply aN (z pins s σ H _ I h) λv S ⟨x,H1,m,G,F⟩=>?_;exact Pq (is_none_gen ⟨.bl _,H1,m,by rw[G.Iz];rfl,F⟩)
def IA{j jU}(z:ϣ ta):PC X .IsNot a Ãf (Qn ta):=by
 show Ò;apply aN (z pins s σ H _ I h) λv S ⟨x,H1,m,G,F⟩=>?_;exact Pq (isnot_none_gen ⟨.bl _,H1,m,by rw[G.Iz];rfl,F⟩)
inductive y6(x:V)(q:Bool->Prop):Prop
 |mk (c:Bool) (_:x=.bl c) (_:q c)
def tB(t:TE):TT:=λσ H Q=>t σ H λx H1=>y6 x λc=>Q c H1
def Qo(h:PC X op a b t)(j:behindInMarks op b=false:=by first|exact Qm _ Ù (by decide)|rfl):PE X Ϟ t:=λpins s σ H Q I hw=>wpAny_Compare1 Âx j
def nI(h:PC X op a b t)(j:behindInMarks op b=false:=by first|exact Qm _ Ù (by decide)|rfl):PT X Ϟ (tB t):=by
 intro pins s σ H Q I z;apply wpAny_isTrue_Compare1 (aN (h pins s σ H _ I z) λv S j=>aN j λu J h2=>aN h2 λc M ⟨x,H1,m,G,F⟩=>?_) j;let(d,rfl,q):=F;cases G;exact ur ⟨H1,m,q⟩
def jD(h:Ϣ t)(m:∀whole,isTrue e X.env whole=(do let v <-whole;standAt e.pos;holding [v] (truthy v)):=by intro _;rfl):PT X e (tB t):=by
 intro pins s σ H Q I z;apply isTrue_plain (aN (h pins s σ H _ I z) λv S ⟨x,H1,j,G,F⟩=>?_) (m _);let(d,rfl,q):=F;cases G;exact ur ⟨H1,j,q⟩
def Ea(t u:TT):TT:=λσ H Q=>t σ H λc H1=>if c=true then u σ H1 Q else Q false H1
def IB(t u:TT):TT:=λσ H Q=>t σ H λc H1=>if c=true then Q true H1 else u σ H1 Q
def aaj(t:TT):TT:=λσ H Q=>t σ H λc H1=>Q (!c) H1
theorem pw_and1(j:PT X a tA):PW X (.BoolOp .And [a] pos) tA:=by
 intro W pins s σ H Q I h;apply isTrue_and (aN (j pins s σ H Q I h) λc S e=>?_);cases c with
 |true=>exact isTrue_and_nil e
 |false=>exact e
theorem pw_or1(j:PT X a tA):PW X (.BoolOp .Or [a] pos) tA:=by
 intro W pins s σ H Q I h;apply isTrue_or (aN (j pins s σ H Q I h) λc S e=>?_);cases c with
 |false=>exact isTrue_or_nil e
 |true=>exact e
theorem pw_and(z:PT X a tA)(F:PW X (.BoolOp .And (b::bQ) pos) tB'):PW X (.BoolOp .And (a::b::bQ) pos) (Ea tA tB'):=by
 intro W pins s σ H Q I h;apply isTrue_and (aN (z pins s σ H _ I h) λc S ⟨H1,j,m⟩=>?_);cases c with
 |true=>exact F W pins S σ H1 Q j m
 |false=>exact(H1,j,m)
theorem pw_or(z:PT X a tA)(F:PW X (.BoolOp .Or (b::bQ) pos) tB'):PW X (.BoolOp .Or (a::b::bQ) pos) (IB tA tB'):=by
 intro W pins s σ H Q I h;apply isTrue_or (aN (z pins s σ H _ I h) λc S ⟨H1,j,m⟩=>?_);cases c with
 |true=>exact(H1,j,m)
 |false=>exact F W pins S σ H1 Q j m
def pY(m:PT X a tA):PT X (.UnaryOp .Not a pos) (aaj tA):=by
 show Ò;exact isTrue_not (aN (m pins s σ H (λc H1=>Q (!c) H1) I h) λ_ _ ⟨H1,j,q⟩=>⟨H1,j,q⟩)
def IC(ta tb:TE):TE:=λσ H Q=>ta σ H λx H1=>y6 x λc=>if c=true then tb σ H1 Q else Q (.bl false) H1
def ID(ta tb:TE):TE:=λσ H Q=>ta σ H λx H1=>y6 x λc=>if c=true then Q (.bl true) H1 else tb σ H1 Q
def aak(ta:TE):TE:=λσ H Q=>ta σ H λx H1=>y6 x λc=>Q (.bl (!c)) H1
def sI{op}(h:ϣ t):PE X (.BoolOp op [a] pos) t:=λpins s σ H Q I hw=>BoolOp_one Âx
def uG(z:ϣ ta)(F:PE X (.BoolOp .And (b::bQ) pos) tb):PE X (.BoolOp .And (a::b::bQ) pos) (IC ta tb):=by
 show Ò;apply BoolOp_and (aN (z pins s σ H _ I h) λv S ⟨x,H1,m,G,j⟩=>?_);let(c,rfl,j):=j;cases G;apply ur ?_;cases c with
 |true=>exact F pins S σ H1 Q m j
 |false=>exact(.bl false,H1,m,Á,j)
def Qp(z:ϣ ta)(F:PE X (.BoolOp .Or (b::bQ) pos) tb):PE X (.BoolOp .Or (a::b::bQ) pos) (ID ta tb):=by
 show Ò;apply BoolOp_or (aN (z pins s σ H _ I h) λv S ⟨x,H1,m,G,j⟩=>?_);let(c,rfl,j):=j;cases G;apply ur ?_;cases c with
 |false=>exact F pins S σ H1 Q m j
 |true=>exact(.bl true,H1,m,Á,j)
def Bg(z:ϣ ta):PE X (.UnaryOp .Not a pos) (aak ta):=by
 show Ò;apply UnaryOp_ (aN (z pins s σ H _ I h) λv S ⟨x,H1,m,F,j⟩=>?_);let(c,rfl,j):=j;cases F;exact not_of (ur ⟨.bl (!c),H1,m,Á,j⟩)
def xA(t:TT)(ta tb:TE):TE:=λσ H Q=>t σ H λc H1=>if c=true then ta σ H1 Q else tb σ H1 Q
theorem sJ(hc:PT X c tA)(z:ϣ ta)(F:PE X b tb):PE X (.IfExp c a b pos) (xA tA ta tb):=by
 show Ò;apply wpAny_IfExp (aN (hc pins s σ H _ I h) λd S ⟨H1,j,m⟩=>?_);cases d with
 |true=>exact z pins S σ H1 Q j m
 |false=>exact F pins S σ H1 Q j m
end
def aa(K:FR)(H:Hp)(a:Addr)(xs:au):Prop:=
 Rd H a Àj\/
  ∃(o:Obj)(j:Array Value)(n:Nat),K.lookup a=some o/\o.cls=.type "list"/\o.dict=none/\o.data=.seq j n/\j.size<=sizeLine/\bh xs j.toList
def bw(K:FR)(H:Hp)(a:Addr)(xs:au):Prop:=
 Rd H a Ài\/
  ∃(o:Obj)(j:Array Value)(n:Nat),K.lookup a=some o/\o.cls=.type "tuple"/\o.data=.seq j n/\j.size<=sizeLine/\bh xs j.toList
def aal:Value->Option V
 |.none=>some .aL
 |.bool b=>some (.bl b)
 |.int i _=>some Ãe
 |.str x _=>some Çl
 |.bytes b _=>some (.jn b)
 |.float b _=>some (.A8 b)
 |.ref a=>some Ğ
 |.type n=>some (.ty n)
 |_=>none
theorem RelV.abs(r:RelV x u):aal u=some x:=by
 cases x with
 |aL=>cases r;rfl
 |bl _=>cases r;rfl
 |int _=>let(t,rfl):=r;rfl
 |str _=>let(t,rfl):=r;rfl
 |jn _=>let(t,rfl):=r;rfl
 |A8 _=>let(t,rfl):=r;rfl
 |ref _=>cases r;rfl
 |ty _=>cases r;rfl
def RelV.inj(r:RelV x u)(q:RelV y u):x=y:=aI (r.abs.symm.trans q.abs)
theorem bh.inj:∀{xs ys:au}{U:LV},bh xs U->bh ys U->xs=ys:=by
 intro xs ys U h;induction h generalizing ys with
 |nil=>intro h';cases h';rfl
 |cons r t I=>
  intro h';cases h' with
  |cons j t'=>rw[r.inj j,I t']
section
variable{X:Cx}{pins:bJ}{σ:St}{H:Hp}{s:Sh}{a:Addr}{xs ys:au}
def aa.of{K:FR}(h:H a=some Àj):ä a xs:=.inl (.inl h)
def bw.of{K:FR}(h:H a=some Ài):ũ a xs:=.inl (.inl h)
def Inv.list(I:Ã H s)(h:Àz a xs):∃j:LV,bh xs j/\PlainL s.heap a j.toArray/\xs.length<=sizeLine:=by
 rcases h with h|⟨o,j,n,hk,hc,hd,hs,m,r⟩
 .let(z,j,n,r,e):=h.ok I.ax;exact(j,r,⟨_,n,e,Á,Á,Á⟩,z)
 .apply(j.toList,r,⟨o,n,I.fO a o hk,hc,hd,by assumption⟩,?_);let e:=r.length;symm
def Inv.tuple(I:Ã H s)(h:bw X.K H a xs):∃j:LV,bh xs j/\IsTup s.heap a j.toArray/\xs.length<=sizeLine:=by
 rcases h with h|⟨o,j,n,hk,hc,hs,m,r⟩
 .let(z,j,r,p):=h.ok I.ax;exact(j,r,p,z)
 .apply(j.toList,r,⟨o,I.fO a o hk,hc,n,À hs⟩,?_);let e:=r.length;simp only[xm] at e;omega
def Inv.Bh(I:Ã H s)(h:Àz a xs)(h':Àz a ys):xs=ys:=by
 let(m,r,(o,n,e,_,_,d),_):=I.list h;let(its',z,(O,F,j,_,_,d'),_):=I.list h';rw[e] at j;cases j;rw[d] at d';injection d' with d1 _;let:m=its':=by simpa using cJ Array.toList d1
 subst this;exact r.inj z
def Inv.Qq(I:Ã H s)(h:bw X.K H a xs)(h':bw X.K H a ys):xs=ys:=by
 let(m,r,(o,e,_,n,d),_):=I.tuple h;let(its',z,(O,j,_,F,d'),_):=I.tuple h';rw[e] at j;cases j;rw[d] at d';injection d' with d1 _;let:m=its':=by simpa using cJ Array.toList d1
 subst this;exact r.inj z
end
abbrev Cx.iK(X:Cx)(E:VP):Cx:={X with xe:=E}
abbrev Cx.vL(X:Cx):Cx:=X.iK λ_ _=>False
def Cx.Ok.iK{X:Cx}(ok:X.Ok)(E:VP):(X.iK E).Ok:=
 ⟨ok.mod,ok.kind,ok.glob,ok.blt,ok.above,ok.inj,ok.has,ok.xy,ok.hd,ok.frames,ok.Ba,ok.Bb,ok.bs,ok.nG,ok.yX,ok.yY,ok.k7,ok.pV⟩
def Cx.Ok.mf{X:Cx}{E:VP}(ok:(X.iK E).Ok):X.Ok:=
 ⟨ok.mod,ok.kind,ok.glob,ok.blt,ok.above,ok.inj,ok.has,ok.xy,ok.hd,ok.frames,ok.Ba,ok.Bb,ok.bs,ok.nG,ok.yX,ok.yY,ok.k7,ok.pV⟩
section
variable{X:Cx}{pins:bJ}{σ:St}{H:Hp}{s:Sh}{E:VP}
def Inv.iK(I:Ã H s)(E:VP):Inv (X.iK E) pins σ H s:=⟨I.ok.iK E,I.os,I.bare,I.base,I.loc,I.cell,I.free,I.k8,I.pin,I.ax,I.len⟩
def Inv.mf(I:Inv (X.iK E) pins σ H s):Ã H s:=⟨I.ok.mf,I.os,I.bare,I.base,I.loc,I.cell,I.free,I.k8,I.pin,I.ax,I.len⟩
theorem SP.mf(h:SP (X.iK E) pins D f s'):SP X pins D f s':=by
 cases f with
 |next=>let(σ',H',I,q):=h;exact(σ',H',I.mf,q)
 |brk=>let(σ',H',I,q):=h;exact(σ',H',I.mf,q)
 |cont=>let(σ',H',I,q):=h;exact(σ',H',I.mf,q)
 |ret u=>let(v,σ',H',I,r,q):=h;exact(v,σ',H',I.mf,r,q)
def k9.vL{st:List Stmt}{t:TS}(h:k9 X.vL st t):k9 X st t:=λpins s σ H D I j=>
 i6 (h pins s σ H D (I.iK _) j) (λ_ _ q=>q.mf) λ_ _ z=>False.elim z
end
section
variable{X:Cx}{st:Stmt}{bQ:List Stmt}{t u:TS}{e:Expr}{te:TE}{pos:Pos}
def Qr:TS:=λD σ H=>D.nx σ H
def IE(t u:TS):TS:=λD σ H=>t {D with nx:=u D} σ H
def dY:k9 X [] Qr:=λ_ _ σ H _ I h=>DJ ⟨σ,H,I,h⟩
def aB(m:PS X st t)(h2:k9 X bQ u):k9 X (st::bQ) (IE t u):=by
 intro pins s σ H D I h;apply Pt (aN (m pins s σ H {D with nx:=u D} I h) λf S q=>?_);cases f with
 |next=>
  let(σ',H',j,q):=q;exact h2 pins S σ' H' D j q
 |ret v=>exact q
 |brk=>exact q
 |cont=>exact q
theorem aD(j:PS X st t):k9 X [st] t:=by
 intro pins s σ H D I h;apply Pt (aN (j pins s σ H D I h) λf S q=>?_);cases f with
 |next=>exact DJ q
 |ret v=>exact q
 |brk=>exact q
 |cont=>exact q
def Inv.quiet(I:Ã H s):interactive X.env=false:=by simp[interactive,I.ok.kind]
def aam(te:TE):TS:=λD σ H=>te σ H λ_ H1=>D.nx σ H1
def pZ(m:Ϣ te)(hs:swapsWith e none pos.line X.env=pure false:=by rfl):PS X (.Expr e pos) (aam te):=by
 intro pins s σ H D I h;exact wpAny_Expr_any (aN (m pins s σ H _ I h) λv S ⟨x,H1,j,F,z⟩=>⟨σ,H1,j,z⟩) I.quiet hs
def Bi(te:TE):TS:=λD σ H=>te σ H D.rt
def a7(m:Ϣ te):PS X (.Return (some e) pos) (Bi te):=by
 intro pins s σ H D I h;exact wpAny_Return_some (aN (m pins s σ H _ I h) λv S ⟨x,H1,j,F,z⟩=>⟨x,σ,H1,j,F,z⟩)
def aan(c:TT)(t u:TS):TS:=λD σ H=>c σ H λb H1=>if b=true then t D σ H1 else u D σ H1
theorem dj(hc:PT X c tc)(z:k9 X a t)(F:k9 X b u):PS X (.If c a b pos) (aan tc t u):=by
 intro pins s σ H D I h;apply wpAny_If (aN (hc pins s σ H _ I h) λd S ⟨H1,j,m⟩=>?_);cases d with
 |true=>exact z pins S σ H1 D j m
 |false=>exact F pins S σ H1 D j m
end
abbrev TG:=V->St->Hp->(St->Hp->Prop)->Prop
abbrev Bj:=au->St->Hp->(St->Hp->Prop)->Prop
def PG(X:Cx)(j:Expr)(t:TG):Prop:=
 ∀(pins:bJ)(s:Sh)(σ:St)(H:Hp)(v:V)(u:Value)(Q:St->Hp->Prop),Ã H s->RelV v u->t v σ H Q->
  wpAny È X.A (assign j X.env u) (λ_ s'=>WP X pins Q s') X.xe s
def Ec(X:Cx)(ts:List Expr)(t:Bj):Prop:=
 ∀(pins:bJ)(s:Sh)(σ:St)(H:Hp)(vs:au)(U:LV)(Q:St->Hp->Prop),Ã H s->bh vs U->t vs σ H Q->
  wpAny È X.A (assignInOrder ((assignEach ts X.env).map (·.2)) U) (λ_ s'=>WP X pins Q s') X.xe s
abbrev Qs:=V->V->Hp->VK->Prop
def PIp(X:Cx)(op:Operator)(t:Qs):Prop:=
 ∀(pins:bJ)(s:Sh)(σ:St)(H:Hp)(x y:V)(v u:Value)(Q:VK),Ã H s->RelV x v->RelV y u->t x y H Q->
  wpAny È X.A (inplaceOp op v u) (ò Q) X.xe s
section
def p7(i:Nat):TG:=λv σ H Q=>Q Ľ H
def dw(i:Nat)(m:X.N.Nodup)(hi:X.N[i]? =some x:=by rfl)(F:Loc X.env.scope x:=by first|exact .inl Á|exact .inr Á)(z:X.fn x=true\/X.env.scope.names.lookup x=some .local:=by first|exact .inl Á|exact .inr Á|assumption):PG X Ϻ (p7 i):=by
 intro pins s σ H v u Q I r h;exact wpAny_assign_Name (D6 I m hi F r (λs' j=>⟨_,H,j,h⟩) z)
def Qt:Bj:=λvs σ H Q=>vs=[]/\Q σ H
inductive IF(t:TG)(u:Bj)(vs:au)(σ:St)(H:Hp)(Q:St->Hp->Prop):Prop
 |mk (v r:_) (_:vs=v::r) (_:t v σ H λσ' H'=>u r σ' H' Q)
def aap:Ec X [] Qt:=by
 intro pins s σ H vs U Q I r h;let(e,h):=h;subst e;cases r;exact assignInOrder_nil ⟨σ,H,I,h⟩
def Qu(z:PG X e t)(h2:Ec X es u)(hs:(assignEach (e::es) X.env).map (·.2)=assign e X.env::(assignEach es X.env).map (·.2):=by rfl):Ec X (e::es) (IF t u):=by
 intro pins s σ H vs U Q I r h;let(v,J,m,h):=h;subst m;cases r with
 |cons r G=>
  rw[hs];apply assignInOrder_cons (aN (z pins s σ H _ _ _ I r h) λ_ S ⟨σ1,H1,j,F⟩=>?_);exact h2 pins S σ1 H1 _ _ Q j G F
inductive Qv(K:FR)(n:Nat)(t:Bj)(v:V)(σ:St)(H:Hp)(Q:St->Hp->Prop):Prop
 |mk (a xs:_) (_:v=.ref a) (_:ũ a xs) (_:xs.length=n) (_:t xs σ H Q)
def aaq{es:List Expr}{k:Nat}{t:Bj}{n:Nat}(hc:X.calm=true)(h:Ec X es t)(G:(assignEach es X.env).length=n:=by rfl) (S:(assignEach es X.env).findIdx? (·.1)=none:=by rfl):PG X (.Tuple es k pos) (Qv X.K n t):=by
 intro pins s σ H v u Q I r j;let(a,xs,z,J,F,j):=j;subst z;cases r;let(W,U,M,Y):=I.tuple J;apply assign_Tuple_tuple Ċ M (by simp[G,<-F,U.length]) S λh' O=>?_;let m:Ã H {s with heap:=h'}:=I.kept (t':=s.toks) λb o e=>O b o Èb e;exact h pins _ σ H xs _ Q m (by assumption) j
abbrev g2(K:FR)(i j:Nat):TG:=Qv K 2 (IF (p7 i) (IF (p7 j) Qt))
def iL{k:Nat}{p q:Pos}(i j:Nat)(m:X.N.Nodup)(hc:X.calm=true:=by rfl)(hi:X.N[i]? =some x:=by rfl)(G:X.N[j]? =some y:=by rfl)(I:Loc X.env.scope x:=by first|exact .inl Á|exact .inr Á)(J:Loc X.env.scope y:=by first|exact .inl Á|exact .inr Á)(z:X.fn x=true\/X.env.scope.names.lookup x=some .local:=by first|exact .inr Á|exact .inl Á) (F:X.fn y=true\/X.env.scope.names.lookup y=some .local:=by first|exact .inr Á|exact .inl Á):PG X (.Tuple [.Name x p,.Name y q] k pos) (g2 X.K i j):=
 aaq hc (Qu (dw i m hi I z) (Qu (dw j m G J F) aap))
def y8(te:TE)(g:TG):TS:=λD σ H=>te σ H λx H1=>g x σ H1 D.nx
def cq(i:Nat)(z:X.N.Nodup)(F:Ϣ te)(hi:X.N[i]? =some x:=by rfl)(J:Loc X.env.scope x:=by first|exact .inl Á|exact .inr Á)(hs:swapsWith e (some (.Name x jU)) pos.line X.env=pure false:=by rfl)(G:X.fn x=true\/X.env.scope.names.lookup x=some .local:=by first|exact .inl Á|exact .inr Á|assumption):
  PS X (.Assign [.Name x jU] e pos) (y8 te (p7 i)):=by
 intro pins s σ H D I h;apply wpAny_Assign_Name (aN (F pins s σ H _ I h) λv S ⟨y,H1,j,O,M⟩=>?_) hs;exact D6 j z hi J O (λU m=>⟨_,H1,m,M⟩) G
def aar(i:Nat)(te:TE)(m:Qs):TS:=λD σ H=>∃x,σ[i]? =some (some x)/\te σ H λy H1=>m x y H1 λz j=>D.nx (σ.set i (some z)) j
def aas(U:X.N.Nodup)(hi:X.N[i]? =some x)(j:Loc X.env.scope x)(W:Ϣ te)(ho:PIp X op ti)(Y:X.fn x=true\/X.env.scope.names.lookup x=some .local:=by first|exact .inl Á|exact .inr Á|assumption):
  PS X (.AugAssign (.Name x jU) op e pos) (aar i te ti):=by
 intro pins s σ H D I h;let(v,S,h):=h;let(m,hn,Z):=I.loc;let F:xx X.env.scope x:=by rcases j with k|k;exact .inl k;exact .inr (.inl k)
 let(u,r,l):=Z i x v hi S F;apply wpAny_AugAssign_Name ?_;let go:wpAny È X.A Ϛ (λw s₂=>wpAny È X.A (inplaceOp op u w) (λr s₃=>wpAny È X.A (storeName X.env x r) (λ_=>SP X pins D .next) X.xe s₃) X.xe s₂) X.xe s:=by
  apply aN (W pins s σ H _ I h) λw s1 ⟨y,H1,J,r1,q1⟩=>?_;apply aN (ho pins s1 σ H1 v y u w _ J r r1 q1) λz s2 ⟨zv,G,M,r2,q2⟩=>?_;exact D6 M U hi j r2 (λs3 O=>⟨_,G,O,q2⟩) Y
 rcases l with ⟨hk,hm⟩|⟨hk,c,hc,yZ⟩
 .exact wpAny_loadName_local I.ok.kind hk hn hm go
 .rcases hk with hk|hk
  .exact wpAny_loadName_cell I.ok.kind hk hc yZ go
  .rcases j with k|k
   .let:X.env.scope.names.lookup x=some .free:=hk;symm
   .let:X.env.scope.names.lookup x=some .free:=hk;symm
end
section
def aau(c:TT)(tb:TS):TS:=λD σ H=>∃W:Nat->St->Hp->Prop,(∃m,W m σ H)/\∀m σ H,W m σ H->
 c σ H λb H1=>if b=true then ∃N:St->Hp->Prop,(∀σ' H',N σ' H'->∃M,M<m/\W M σ' H')/\tb {D with nx:=N,ct:=N,bk:=D.nx} σ H1 else D.nx σ H1
def aav{c:Expr}{Y:List Stmt}{tc:TT}{tb:TS}(hp:PassesOwn È X.A X.env X.xe)(hc:PT X c tc)(hb:k9 X Y tb):PS X (.While c Y [] pos) (aau tc tb):=by
 intro pins s σ H D I h;let(W,(m0,w0),turn):=h;apply wpAny_While (codeAny_whileLoop (λn s'=>∃σ' H',Ϯ s'/\W n σ' H') ?_ m0 ⟨σ,H,I,w0⟩);rintro n s1 ⟨σ1,H1,I1,w1⟩;apply AX hp (aN (hc pins s1 σ1 H1 _ I1 (turn n σ1 H1 w1)) λb s2 ⟨S,U,m⟩=>?_);cases b with
 |true=>
  let(N,Z,m):=m;rw[af rfl];apply AX hp (aN (hb pins s2 σ1 S _ U m) λf s3 z=>?_);cases f with
  |next=>
   let(σ3,j,F,J):=z;let(M,G,O):=Z σ3 j J;exact(M,G,σ3,j,F,O)
  |cont=>
   let(σ3,j,F,J):=z;let(M,G,O):=Z σ3 j J;exact(M,G,σ3,j,F,O)
  |brk=>exact z
  |ret v=>exact z
 |false=>
  rw[ah eC];exact DJ ⟨σ1,S,U,m⟩
end
structure It where
 go:Nat->Hp->Prop
 nJ:Nat->Hp->V->Hp->Prop
 stop:Nat->Hp->Prop
def mh(X:Cx)(pins:bJ)(H:Hp)(b:Addr):Prop:=
 H b=none/\b≠X.env.locals/\b∉X.fs/\(b∈X.ex\/X.ic.heap.objs.size<=b)/\(∀x c,X.env.cells.lookup x=some c->c≠b)/\∀p∈X.pn++pins,p.1≠b
def Inv.vM(I:Ã H s)(j:s.heap.objs.size<=b)(m:H' b=none):Ł H' b:=by
 apply(m,uq (iB I.lt j),I.aae j,.inr (ia I.sz j),λx c e z=>?_,λp F z=>?_)
 .let(v,q):=I.cell x c e;exact absurd (iB q.lt É) (qQ _)
 .exact absurd (iB (c9 (I.pin p F).1) É) (qQ _)
structure Turn(P:Pg)(w:Wd)(K:FR)(tg:Expr)(J:It)(fp:LA)(it:Addr)(tn:Nat->Heap->Prop):Prop where
 mem:it∈fp
 obj:∀i h,tn i h->∀b∈fp,∃o,h.get? b=some o/\∀v,o.data≠ .cell v
 keep:∀i h h',tn i h->(∀b∈fp,∀o,h.get? b=some o->h'.get? b=some o)->tn i h'
 item:∀(X:Cx),X.prog=P->X.w=w->X.K=K->X.calm=true->∀(i:Nat)(pins:bJ)(s:Sh)(σ:St)(H:Hp)(E:VP),Ã H s->(∀b∈fp,Ł H b)->tn i s.heap->J.go i H->
  wpAny Àm X.A (pyNext Ãi) (λr s1=>∃u,r=some u/\
   wpAny Àm X.A (letOwnedTupleGo tg Ãi u) (λ_ s2=>∃x H',Ã H' s2/\RelV x u/\J.nJ i H x H'/\tn (i+1) s2.heap/\∀b∈fp,H' b=none) E s1) E s
 done:∀(X:Cx),X.prog=P->X.w=w->X.K=K->X.calm=true->∀(i:Nat)(pins:bJ)(s:Sh)(σ:St)(H:Hp)(E:VP),Ã H s->(∀b∈fp,Ł H b)->tn i s.heap->J.stop i H->
  wpAny Àm X.A (pyNext Ãi) (λr s1=>r=none/\Ã H s1) E s
 self:∀(A:Around)(i:Nat)(s:Sh)(Q:VP)(E:VP),tn i s.heap->Q Ãi s->wpAny Àm A (pyIter Ãi) Q E s
abbrev TI:=St->Hp->(It->Hp->Prop)->Prop
def Bk(X:Cx)(pins:bJ)(σ:St)(tg:Expr)(R:It->Hp->Prop)(j:Value)(S:Sh):Prop:=
 ∃(I:Addr)(F:LA)(tn:Nat->Heap->Prop)(J:It)(H':Hp),j=.ref I/\Ã H' S/\Turn X.prog X.w X.K tg J F I tn/\tn 0 S.heap/\(∀b∈F,Ł H' b)/\R J H'
def PI(X:Cx)(tg iter:Expr)(W:TI):Prop:=
 ∀(pins:bJ)(s:Sh)(σ:St)(H:Hp)(R:It->Hp->Prop),Ã H s->W σ H R->
  wpAny È X.A (eval iter X.env) (λv S=>wpAny È X.A (pyIter v) Åa X.xe S) X.xe s
def Ed(z:s.heap.get? it=some o)(hc:o.cls=.type n)(hd:o.data=.fields vs)(m:["enumerate","zip","dict_itemiterator","dict_reverseitemiterator","odict_iterator","itertools.zip_longest","itertools.pairwise"].contains n=false) (j:Q () s):Ϗ (letOwnedTupleGo tg Ãi u) Q E s:=by
 delta letOwnedTupleGo;cases tg <;> first
  |exact di j
  |(cases u <;> first
    |exact di j
    |(apply aQ (wpAny_load z ?_)
      rw[hc,hd];show wpAny M A (if (["enumerate","zip","dict_itemiterator","dict_reverseitemiterator","odict_iterator","itertools.zip_longest","itertools.pairwise"].contains n&&vs[0]? ==some (rawInt _))=true then _ else _) Q E s;rw[ah (by intro h;rw[m,lI] at h;cases h)];exact di j))
def vN(K:FR)(a:Addr):It:=
 ⟨λi H=>∃xs x,ä a xs/\xs[i]? =some x,λi H x H'=>H'=H/\∀xs,ä a xs->xs[i]? =some x,λi H=>∃xs,ä a xs/\xs.length<=i⟩
def xB(lo:Int)(n:Nat):It:=⟨λi _=>i<n,λi H x H'=>H'=H/\x=.int (lo+i),λi _=>n<=i⟩
def aaw{P:Pg}{w:Wd}{K:FR}{tg:Expr}(a it:Addr):Turn P w K tg (vN K a) [it] it (λi h=>h.IsListIter it a i) where
 mem:=by simp
 obj:=λi h st b hb=>by
  let e:b=it:=À hb
  subst e;let(o,e,c,d):=st;exact(o,e,λv z=>by rw[d] at z;cases z)
 keep:=λi h h' st k=>st.at λo e=>k it Ä o e
 item:=by
  show Õ;subst hP hw hK;let(xs,x,j,m):=hg;let(J,F,p,U):=I.list j;let(u,M,W):=F.get m;show ë;apply wpAny_pyNext_list_item st p.isList (x:=u) (À M) λh' O Y=>?_;let G:Ã H {s with heap:=h'}:=I.turned (t':=s.toks) (λb o hb e=>(Y.2 b hb).trans e) f0 f1 f3 f4 f5;let(o,e,c,d):=id O;exact(u,Á,Ed (s:={s with heap:=h'}) e c d Ù ⟨x,H,G,W,⟨Á,λys S=>by rw[I.Bh S j];exact m⟩,O,λb hb=>(hf b hb).1⟩)
 done:=by
  show Õ;subst hP hw hK;let(xs,j,m):=hg;let(J,F,p,U):=I.list j;show ë;let Z:=F.length;exact wpAny_pyNext_list_end Ċ st p.isList (by simp;omega) λh' eb=>⟨Á,I.turned (t':=s.toks) ϖ f0 f1 f3 f4 f5⟩
 self:=λ_ _ _ _ _ st h=>wpAny_pyIter_listiter st h
def aax{P:Pg}{w:Wd}{K:FR}{tg:Expr}(it:Addr)(lo:Int)(n:Nat):Turn P w K tg (xB lo n) [it] it (λi h=>IsRangeIter h it (lo+(i:Nat)*1) ((n:Int)-(i:Nat)) 1) where
 mem:=by simp
 obj:=λi h st b hb=>by
  let e:b=it:=À hb
  subst e;exact⟨_,st,λv z=>by
   let Z:Data.fields _=Data.cell v:=z;cases Z⟩
 keep:=λi h h' st k=>k it Ä _ st
 item:=by
  show Õ;subst hP hw hK;show ë;let W:=Walks.range (prog:=X.prog) (w:=X.w) Ċ it lo 1 n;apply W.item i s _ _ hg st λv h' tk m O F=>?_;let(t,rfl):=m;let j:Ã H {s with heap:=h',toks:=tk}:=I.turned (λb o hb e=>F b o (À hb) e) f0 f1 f3 f4 f5;apply⟨_,Á,Ed (s:={s with heap:=h',toks:=tk}) (n:="range_iterator") O Á Á Ù ⟨.int (lo+i),H,j,⟨t,?_⟩,⟨Á,Á⟩,O,λb hb=>(hf b hb).1⟩⟩;rw[Int.mul_one]
 done:=by
  show Õ;subst hP hw hK;show ë;exact wpAny_pyNext_range_end Ċ st (by let:n<=i:=hg;omega) λh' eb=>⟨Á,I.turned (t':=s.toks) ϖ f0 f1 f3 f4 f5⟩
 self:=λ_ _ _ _ _ st h=>wpAny_pyIter_rangeiter st h
section
def aay(K:FR)(tl:TE):TI:=λσ H R=>tl σ H λx H1=>∃a,x=.ref a/\(∃xs,aa K H1 a xs)/\R (vN K a) H1
def eV{l:Expr}{tl:TE}(m:PE X l tl):PI X tg l (aay X.K tl):=by
 intro pins s σ H R I h;apply aN (m pins s σ H _ I h) λv S ⟨x,H1,I1,G,F⟩=>?_;let(a,e,(xs,z),q):=F;subst e;cases G;let(J,O,p,M):=I1.list z;apply YL p.isList ?_;apply(S.heap.objs.size,[S.heap.objs.size],_,_,H1,Á,I1.kept (t':=S.toks) λb o e=>dq _ e,aaw a _,⟨_,iq _ Á,Á,Á⟩,λb j=>?_,q);let e:b=S.heap.objs.size:=À j
 subst e;exact I1.vM (bU _) Ãz
def Qw{pins:bJ}{σ:St}{H:Hp}{s:Sh}{R:It->Hp->Prop}{E:VP}{lo hi:Int}{t u v:Tok}{tk:Nat}(I:Ã H s)(z: -(2^62)<=lo)(h2:lo<2^62)(F: -(2^62)<=hi)(G:hi<2^62)(q:R (xB lo (hi-lo).toNat) H):wpAny È X.A (pyIter Ĺ) Åa E {s with heap:=s.heap.push {cls:=.type "range",data:=.fields #[.int lo t,.int hi u,.int 1 v]},toks:=tk}:=by
 apply wpAny_pyIter_range (IsRange.new ..) (small_one z h2 F G) ?_;let I1:Ã H {s with heap:=s.heap.push {cls:=.type "range",data:=.fields #[.int lo t,.int hi u,.int 1 v]},toks:=tk}:=I.kept λb o e=>dq _ e;refine⟨(s.heap.push {cls:=.type "range",data:=.fields #[.int lo t,.int hi u,.int 1 v]}).objs.size,[(s.heap.push {cls:=.type "range",data:=.fields #[.int lo t,.int hi u,.int 1 v]}).objs.size],_,_,H,Á,
  I1.kept (t':=tk) λb o e=>dq _ e,aax _ lo (hi-lo).toNat,?_,λb J=>?_,q⟩
 .let j:lo+((0:Nat):Int)*1=lo:=by simp
  let m:(((hi-lo).toNat:Nat):Int)-((0:Nat):Int)=Builtin.Range.rangeSize lo hi 1:=by rw[rangeSize_one];split <;> omega
  show IsRangeIter _ _ (lo+((0:Nat):Int)*1) ((((hi-lo).toNat:Nat):Int)-((0:Nat):Int)) 1;rw[j,m];exact iq _ Á
 .let e:b=(s.heap.push {cls:=.type "range",data:=.fields #[.int lo t,.int hi u,.int 1 v]}).objs.size:=by simpa using J
  subst e;exact I1.vM (bU _) Ãz
def aaz(ta:TA):TI:=λσ H R=>ta σ H λvs H1=>∃j:Int,vs=[.int j]/\ -(2^62)<=j/\j<2^62/\R (xB 0 j.toNat) H1
def aaA(ta:TA):TI:=λσ H R=>ta σ H λvs H1=>∃i j:Int,vs=[.int i,.int j]/\(-(2^62)<=i/\i<2^62/\ -(2^62)<=j/\j<2^62)/\R (xB i (j-i).toNat) H1
def IH{a:Expr}{ta:TA}{p pos:Pos}(hg:Gl X "range")(hm:X.mg "range"=none)(F:PA X [a] ta)(hs:starEach [a] X.env=[(false,eval a X.env)]:=by rfl):PI X tg (.Call (.Name "range" p) [a] [] pos) (aaz ta):=by
 intro pins s σ H R I h;apply Call_ (Àk boot_range (DK (aN (F pos pins s σ H _ I h) λU S ⟨vs,H1,z,J,m⟩=>?_) hs Á));let(j,e,m,G,q):=m;subst e;cases J with
 |cons r M=>
  cases M;let(t,rfl):=r;exact call_range_1 (Qw z Å Å m G É)
def aaB(hg:Gl X "range")(hm:X.mg "range"=none)(G:PA X [a,b] ta)(hs:starEach [a,b] X.env=[(false,eval a X.env),(false,eval b X.env)]:=by rfl)(W:starEach [b] X.env=[(false,eval b X.env)]:=by rfl):
  PI X tg (.Call (.Name "range" p) [a,b] [] pos) (aaA ta):=by
 intro pins s σ H R I h;apply Call_ (Àk boot_range (DK (aN (G pos pins s σ H _ I h) λZ Y ⟨vs,H1,F,U,m⟩=>?_) É (by rw[W];rfl)));let(i,j,e,(m,J,M,O),q):=m;subst e;cases U with
 |cons r z=>
  cases z with
  |cons S z=>
   cases z;let(t,rfl):=r;let(t',rfl):=S;exact call_range_2 (Qw F m J M O q)
def aaC(z:TI)(g:TG)(tb:TS):TS:=λD σ H=>z σ H λJ H1=>∃W:Nat->Nat->St->Hp->Prop,(∃m,W 0 m σ H1)/\∀i m σ H,W i m σ H->
 (J.stop i H/\D.nx σ H)\/(J.go i H/\∃N:St->Hp->Prop,(∀σ' H',N σ' H'->∃M,M<m/\W (i+1) M σ' H')/\∀x H',J.nJ i H x H'->g x σ H' λσ2 j=>tb {D with nx:=N,ct:=N,bk:=D.nx} σ2 j)
def Bl(F:LA)(h:Heap):bJ:=F.filterMap λb=>(h.get? b).map λo=>(b,o)
def II(j:b∈fp)(e:h.get? b=some o):(b,o)∈Bl fp h:=HJ.mpr ⟨b,j,by rw[e];rfl⟩
def aaD(j:p∈Bl fp h):p.1∈fp/\h.get? p.1=some p.2:=by
 let(b,m,e):=HJ.mp j;cases q:h.get? b with
 |none=>symm
 |some o=>
  grind
def Inv.pinned(I:Ã H s)(M:∀b∈fp,Ł H b)(O:∀b∈fp,∃o,s.heap.get? b=some o/\∀v,o.data≠ .cell v):Inv X (pins++Bl fp s.heap) σ H s:=
 I.Iv λp S=>(gQ.mp S).elim (λz=>I.pin p (uu _ z)) λz=>by
  let(m,e):=aaD z;let(F,G,J,_):=M p.1 m;let(o,j,d):=O p.1 m;rw[e] at j;cases j;exact(e,F,G,J,d)
def Inv.Ee(I:Inv X (pins++pl) σ H s):Ã H s:=I.Iv λp j=>I.pin p (uu _ (AW _ j))
def mi(O:PassesOwn È X.A X.env X.xe)(hc:X.calm=true)(hi:PI X tg iter wi)(hg:PG X tg g)(F:k9 X gV tb)(hs:∀x,foldedSetIterable iter X.env x=pure x:=by intro _;rfl):PS X (.For tg iter gV [] pos) (aaC wi g tb):=by
 intro pins s σ H D I h;apply wpAny_For (aN (hi pins s σ H _ I h) λv s1 h1=>aN h1 λIG s2 h2=>?_) hs;let(it,M,tn,J,H2,e,I2,T,Ef,f2,W,(m0,w0),turn):=h2;subst e;let xD:∀{H':Hp},(∀b∈M,H' b=none)->∀b∈M,Ł H' b:=λhn b F=>⟨hn b F,(f2 b F).2⟩;apply codeAny_forLoop_any (λn s'=>∃i σ' H',Ϯ s'/\tn i s'.heap/\(∀b∈M,H' b=none)/\W i n σ' H') ?_ m0 ⟨0,σ,H2,I2,Ef,λb F=>(f2 b F).1,w0⟩;rintro n s3 ⟨i,σ3,U,I3,Eg,Qx,w3⟩;rcases turn i n σ3 U w3 with ⟨stop,qn⟩|⟨go,N,hN,step⟩
 .apply AX O (aN (T.done X Á Á Á hc i pins s3 σ3 U X.xe I3 (xD Qx) Eg stop) λr s4 ⟨hr,I4⟩=>?_);subst hr;exact DJ ⟨σ3,U,I4,qn⟩
 .apply AX O (aN (T.item X Á Á Á hc i pins s3 σ3 U X.xe I3 (xD Qx) Eg go) λr s4 ⟨u,hr,h4⟩=>?_);subst hr;apply AX O (aN h4 λ_ s5 ⟨x,H5,I5,r5,y5,y9,Z⟩=>?_);let Y:=I5.pinned (xD Z) (T.obj _ _ y9);apply AX O (aN (hg _ s5 σ3 H5 x u _ Y r5 (step x H5 y5)) λ_ s6 ⟨σ6,H6,I6,q6⟩=>?_);apply AX O (aN (F _ s6 σ6 H6 _ I6 q6) λf s7 G=>?_);let again:∀{σ7:St}{j:Hp},Inv X (pins++Bl M s5.heap) σ7 j s7->N σ7 j->∃m,m<n/\∃i σ' H',Ϯ s7/\tn i s7.heap/\(∀b∈M,H' b=none)/\W i m σ' H':=λ{σ7 j}z S=>by
   let(m',hm,w7):=hN σ7 j S;apply(m',hm,i+1,σ7,j,z.Ee,T.keep _ _ _ y9 λb F o e=>(z.pin (b,o) (uu _ (uu _ (II F e)))).1,λb F=>?_,w7);let(o,e,d):=T.obj _ _ y9 b F;exact(z.pin (b,o) (uu _ (uu _ (II F e)))).2.1
  cases f with
  |next=>let(σ7,j,z,S):=G;exact again z S
  |cont=>let(σ7,j,z,S):=G;exact again z S
  |brk=>let(σ7,j,z,G):=G;exact(σ7,j,z.Ee,G)
  |ret v=>let(x7,σ7,j,z,r7,G):=G;exact(x7,σ7,j,z.Ee,r7,G)
end
def vO{K:FR}{a:Addr}{xs:au}{g:TG}{tb:TS}{D:Ends}{σ:St}{H:Hp}(Pv:Nat->St->Hp->Prop)(h0:Pv 0 σ H)(F:∀i σ H,i<=xs.length->Pv i σ H->ä a xs)(hs:∀i x σ H,xs[i]? =some x->Pv i σ H->g x σ H λσ2 j=>tb {D with nx:=Pv (i+1),ct:=Pv (i+1),bk:=D.nx} σ2 j) (hd:∀σ H,Pv xs.length σ H->D.nx σ H):
  ∃W:Nat->Nat->St->Hp->Prop,(∃m,W 0 m σ H)/\∀i m σ H,W i m σ H->
   ((vN K a).stop i H/\D.nx σ H)\/((vN K a).go i H/\∃N:St->Hp->Prop,(∀σ' H',N σ' H'->∃M,M<m/\W (i+1) M σ' H')/\∀x H',(vN K a).nJ i H x H'->g x σ H' λσ2 j=>tb {D with nx:=N,ct:=N,bk:=D.nx} σ2 j):=by
 refine î;rintro i m σ H ⟨rfl,hi,p⟩;let q:=F i σ H hi p;by_cases z:i<xs.length
 .apply .inr ⟨⟨xs,xs[i],q,by simp[z]⟩,Pv (i+1),λσ' H' G=>⟨xs.length-(i+1),by omega,rfl,z,G⟩,λx H' y=>?_⟩;let(e,y):=y;subst e;exact hs i x σ _ (y xs q) p
 .let e:i=xs.length:=by omega
  subst e;exact .inl ⟨⟨xs,q,bU _⟩,hd σ H p⟩
abbrev R2:=V->V->Hp->VK->Prop
def eW(X:Cx)(f:Value->Value->Sem Value)(r:R2):Prop:=
 ∀(pins:bJ)(s:Sh)(σ:St)(H:Hp)(x y:V)(v u:Value)(Q:VK),Ã H s->RelV x v->RelV y u->r x y H Q->
  wpAny È X.A (f v u) (ò Q) X.xe s
def Eh(X:Cx)(f:Value->Sem Value)(r:V->Hp->VK->Prop):Prop:=
 ∀(pins:bJ)(s:Sh)(σ:St)(H:Hp)(x:V)(v:Value)(Q:VK),Ã H s->RelV x v->r x H Q->
  wpAny È X.A (f v) (ò Q) X.xe s
def lS(X:Cx)(f:Value)(r:au->Hp->VK->Prop):Prop:=
 ∀(pins:bJ)(s:Sh)(σ:St)(H:Hp)(xs:au)(U:LV)(Q:VK),Ã H s->bh xs U->r xs H Q->
  wpAny È X.A (call f U) (ò Q) X.xe s
def aaG(X:Cx)(r:V->Hp->(Bool->Hp->Prop)->Prop):Prop:=
 ∀(pins:bJ)(s:Sh)(σ:St)(H:Hp)(x:V)(v:Value)(Q:Bool->Hp->Prop),Ã H s->RelV x v->r x H Q->
  wpAny È X.A (truthy v) Ãb X.xe s
def bX(r:R2)(ta tb:TE):TE:=λσ H Q=>ta σ H λx H1=>tb σ H1 λy j=>r x y j Q
def Ei(r:V->Hp->VK->Prop)(ta:TE):TE:=λσ H Q=>ta σ H λx H1=>r x H1 Q
inductive rI(C:Int->Int->Prop)(g:Int->Int->V)(x:V)(y:V)(H:Hp)(Q:VK):Prop
 |mk (i j:_) (_:x=.int i) (_:y=.int j) (_:C i j) (_:Q Äs H)
inductive gu(g:Int->Int->V)(x:V)(y:V)(H:Hp)(Q:VK):Prop
 |mk (i j:_) (_:x=.int i) (_:y=.int j) (_:Q Äs H)
inductive rU(g:Int->V)(x:V)(H:Hp)(Q:VK):Prop
 |mk (i:_) (_:x=.int i) (_:Q (g i) H)
section
def IJ(F:ϣ ta)(G:PE X b tb){pins:bJ}{s:Sh}{σ:St}{H:Hp}{R:V->V->Hp->Prop}(I:Ã H s)(h:ta σ H λx H1=>tb σ H1 λy j=>R x y j) {Q:VP} {f:Value->Value->Sem Value}(J:∀v u S x y j,Ã j S->RelV x v->RelV y u->R x y j->wpAny È X.A (f v u) Q X.xe S):
  wpAny È X.A (eval a X.env) (λv Z=>wpAny È X.A (eval b X.env) (λu s₂=>wpAny È X.A (f v u) Q X.xe s₂) X.xe Z) X.xe s:=by
 apply aN (F pins s σ H _ I h) λv Y ⟨x,H1,m,U,M⟩=>?_;apply aN (G pins Y σ H1 _ m M) λu S ⟨y,j,z,W,O⟩=>?_;exact J v u S x y j z U W O
def eS{op:Operator}{r:R2}(G:eW X (binaryOp op) r)(z:ϣ ta)(F:PE X b tb):PE X (.BinOp a op b pos) Çc:=by
 show Ò;exact wpAny_BinOp (IJ z F I h λv u S x y j m J M q=>G pins S σ j x y v u Q m J M q)
def i8(z:Eh X (unaryOp op) r)(m:ϣ ta):PE X (.UnaryOp op a pos) (Ei r ta):=by
 show Ò;exact UnaryOp_ (aN (m pins s σ H _ I h) λv S ⟨x,H1,j,G,F⟩=>z pins S σ H1 x v Q j G F)
def Bm{f:Value->Value->Sem Value}{C:Int->Int->Prop}{g:Int->Int->Int}(rule:∀(i j:Int)(t u:Tok)(s:Sh)(Q:VP)(E:VP),C i j->Q (.int Äs s.toks) {s with toks:=s.toks+1}->wpAny È X.A (f Áw (.int j u)) Q E s):
  eW X f (rI C λi j=>.int Äs):=by
 show ð;let(i,j,rfl,rfl,hc,q):=h;let(t,rfl):=rx;let(t',rfl):=ry;exact rule i j t t' s _ _ hc ⟨.int Äs,H,I.tok _,⟨_,Á⟩,q⟩
def Ej{f:Value->Value->Sem Value}{g:Int->Int->Int}(rule:∀(i j:Int)(t u:Tok)(s:Sh)(Q:VP)(E:VP),Q (.int Äs s.toks) {s with toks:=s.toks+1}->wpAny È X.A (f Áw (.int j u)) Q E s):
  eW X f (gu λi j=>.int Äs):=by
 show ð;let(i,j,rfl,rfl,q):=h;let(t,rfl):=rx;let(t',rfl):=ry;exact rule i j t t' s _ _ ⟨.int Äs,H,I.tok _,⟨_,Á⟩,q⟩
def Ek{f:Value->Value->Sem Value}{g:Int->Int->Bool}(rule:∀(i j:Int)(t u:Tok)(s:Sh)(Q:VP)(E:VP),Q (.bool Äs) s->wpAny È X.A (f Áw (.int j u)) Q E s):
  eW X f (gu λi j=>.bl Äs):=by
 show ð;let(i,j,rfl,rfl,q):=h;let(t,rfl):=rx;let(t',rfl):=ry;exact rule i j t t' s _ _ ⟨.bl Äs,H,I,Á,q⟩
def aaH(i j:Int):Prop:=0<j/\j<1073741824
def Qy(i j:Int):Prop:=0<=j/\j<=1000000/\i.natAbs<2^64
def IK(i j:Int):Prop:=(-(2^64)<i/\i<2^64)\/(-(2^64)<j/\j<2^64)
def IK.ok(h:IK i j):IntMulOk i j:=by
 rcases h with ⟨m,h2⟩|⟨m,h2⟩
 .exact .of_left (intBits_le_64 m h2)
 .exact .of_right (intBits_le_64 m h2)
def aaI(k:Nat):(0:Int)<=2^k:=by
 grind
def qZ:eW X (binaryOp .Add) (gu λi j=>.int (i+j)):=Ej λ_ _ _ _ _ _ _ q=>add_int q
def rg:eW X (binaryOp .Sub) (gu λi j=>.int (i-j)):=Ej λ_ _ _ _ _ _ _ q=>sub_int q
def aaJ:eW X (binaryOp .Mult) (rI IK λi j=>.int (i*j)):=Bm λ_ _ _ _ _ _ _ hc q=>mul_int q hc.ok
def aaK:eW X (binaryOp .FloorDiv) (rI aaH λi j=>.int (i/j)):=Bm λi j _ _ _ _ _ hc q=>by
 let m:(0:Int)<j:=hc.1;let h2:j<1073741824:=hc.2;exact floordiv_int Å (by grind) (.inl (PyProof.noPylong_small Å))
def IL:eW X (binaryOp .Mod) (rI (λ_ j=>0<j) λi j=>.int (i%j)):=Bm λi j _ _ _ _ _ hc q=>by
 let m:(0:Int)<j:=hc;exact mod_int' Å (by rw[Int.fmod_eq_emod_of_nonneg i Å];exact q)
def IM:eW X (binaryOp .LShift) (rI Qy λi j=>.int (i*2^j.toNat)):=Bm λ_ _ _ _ _ _ _ hc q=>lshift_int_small hc.1 hc.2.1 hc.2.2 q
def Qz:eW X (binaryOp .RShift) (rI (λ_ j=>0<=j) λi j=>.int (i/2^j.toNat)):=Bm λi j _ _ _ _ _ hc q=>
 rshift_int hc (by rw[Int.fdiv_eq_ediv_of_nonneg i (aaI _)];exact q)
def Bn:eW X (binaryOp .BitAnd) (gu λi j=>.int ŕ):=Ej λ_ _ _ _ _ _ _ q=>and_int q
def aaL:eW X (inplaceOp .Add) (gu λi j=>.int (i+j)):=Ej λ_ _ _ _ _ _ _ q=>iadd_int q
def QA{f:Value->Sem Value}{g:Int->Int}(rule:∀(i:Int)(t:Tok)(s:Sh)(Q:VP)(E:VP),Q (.int (g i) s.toks) {s with toks:=s.toks+1}->wpAny È X.A (f Áw) Q E s):
  Eh X f (rU λi=>.int (g i)):=by
 intro pins s σ H x v Q I j h;let(i,rfl,q):=h;let(t,rfl):=j;exact rule i t s _ _ ⟨.int (g i),H,I.tok _,⟨_,Á⟩,q⟩
def jE:Eh X (unaryOp .USub) (rU λi=>.int (-i)):=QA λ_ _ _ _ _ q=>neg_int q
def QB:Eh X (unaryOp .Invert) (rU λi=>.int Åh):=QA λ_ _ _ _ _ q=>invert_int q
end
def QC:V->V->Bool
 |.aL,.aL=>true|.aL,.int _=>true|.int _,.aL=>true|.aL,.bl _=>true|.bl _,.aL=>true|.aL,.str _=>true|.str _,.aL=>true
 |.int _,.int _=>true|.bl _,.bl _=>true|.str _,.str _=>true|.jn _,.jn _=>true
 |.int _,.str _=>true|.str _,.int _=>true|.bl _,.str _=>true|.str _,.bl _=>true
 |_,_=>false
def oQ:R2:=λx y H Q=>QC x y=true/\Q (.bl (decide (x=y))) H
def rNe:R2:=λx y H Q=>QC x y=true/\Q (.bl (!decide (x=y))) H
def mj:decide (V.int i=V.int j)=(i==j):=by
 grind
def QD:decide (V.bl i=V.bl j)=(i==j):=by
 grind
def QE:decide (V.str i=V.str j)=(i==j):=by
 grind
def QF:decide (V.jn i=V.jn j)=(i.toList==j.toList):=by
 rw[pO];simp
section
def gv(I:Ã H s)(q:Q (.bl k) H)(e:k=k'):ò Q (.bool k') s:=by
 subst e;exact(.bl k,H,I,Á,q)
def ir:eW X Ám oQ:=by
 show ð;let(hs,q):=h;cases x with
 |aL=>
  cases rx;cases y with
  |aL=>cases ry;exact PySem.EqNone.eq_none_none ą
  |bl j=>cases ry;exact PySem.EqNone.eq_none_bool ą
  |int j=>let(t',rfl):=ry;exact PySem.EqNone.eq_none_int ą
  |str j=>let(t',rfl):=ry;exact PySem.EqNone.eq_none_str ą
  |_=>exact absurd (show false=true from hs) eC
 |bl i=>
  cases rx;cases y with
  |aL=>cases ry;exact PySem.EqNone.eq_bool_none ą
  |bl j=>cases ry;exact eq_bool (gv I q QD)
  |str j=>let(t',rfl):=ry;exact PySem.EqMixed.eq_bool_str ą
  |_=>exact absurd (show false=true from hs) eC
 |int i=>
  let(t,rfl):=rx;cases y with
  |aL=>cases ry;exact PySem.EqNone.eq_int_none ą
  |int j=>let(t',rfl):=ry;exact eq_int (gv I q mj)
  |str j=>let(t',rfl):=ry;exact PySem.EqMixed.eq_int_str ą
  |_=>exact absurd (show false=true from hs) eC
 |str i=>
  let(t,rfl):=rx;cases y with
  |aL=>cases ry;exact PySem.EqNone.eq_str_none ą
  |bl j=>cases ry;exact PySem.EqMixed.eq_str_bool ą
  |int j=>let(t',rfl):=ry;exact PySem.EqMixed.eq_str_int ą
  |str j=>let(t',rfl):=ry;exact eq_str (gv I q QE)
  |_=>exact absurd (show false=true from hs) eC
 |jn i=>
  let(t,rfl):=rx;cases y with
  |jn j=>let(t',rfl):=ry;exact PySem.W.eq_bytes (gv I q QF)
  |_=>exact absurd (show false=true from hs) eC
 |_=>cases y <;> exact absurd (show false=true from hs) eC
def vP:eW X Áv rNe:=by
 show ð;let(hs,q):=h;cases x with
 |aL=>
  cases rx;cases y with
  |aL=>cases ry;exact PySem.EqNone.ne_none_none ą
  |bl j=>cases ry;exact PySem.EqNone.ne_none_bool ą
  |int j=>let(t',rfl):=ry;exact PySem.EqNone.ne_none_int ą
  |str j=>let(t',rfl):=ry;exact PySem.EqNone.ne_none_str ą
  |_=>exact absurd (show false=true from hs) eC
 |bl i=>
  cases rx;cases y with
  |aL=>cases ry;exact PySem.EqNone.ne_bool_none ą
  |bl j=>cases ry;exact ne_bool (gv I q (cJ not QD))
  |str j=>let(t',rfl):=ry;exact PySem.EqMixed.ne_bool_str ą
  |_=>exact absurd (show false=true from hs) eC
 |int i=>
  let(t,rfl):=rx;cases y with
  |aL=>cases ry;exact PySem.EqNone.ne_int_none ą
  |int j=>let(t',rfl):=ry;exact ne_int (gv I q (cJ not mj))
  |str j=>let(t',rfl):=ry;exact PySem.EqMixed.ne_int_str ą
  |_=>exact absurd (show false=true from hs) eC
 |str i=>
  let(t,rfl):=rx;cases y with
  |aL=>cases ry;exact PySem.EqNone.ne_str_none ą
  |bl j=>cases ry;exact PySem.EqMixed.ne_str_bool ą
  |int j=>let(t',rfl):=ry;exact PySem.EqMixed.ne_str_int ą
  |str j=>let(t',rfl):=ry;exact ne_str (gv I q (cJ not QE))
  |_=>exact absurd (show false=true from hs) eC
 |jn i=>
  let(t,rfl):=rx;cases y with
  |jn j=>let(t',rfl):=ry;exact PySem.W.ne_bytes (gv I q (cJ not QF))
  |_=>exact absurd (show false=true from hs) eC
 |_=>cases y <;> exact absurd (show false=true from hs) eC
def xE:eW X Çu (gu λi j=>.bl (decide (i<j))):=Ek λ_ _ _ _ _ _ _ q=>lt_int q
def xF:eW X (compareOp .LtE) (gu λi j=>.bl (decide (i<=j))):=Ek λ_ _ _ _ _ _ _ q=>le_int q
def vQ:eW X (compareOp .Gt) (gu λi j=>.bl (decide (j<i))):=Ek λ_ _ _ _ _ _ _ q=>gt_int q
def bV(b:Expr)(h:op≠ .In:=by decide)(h2:op≠ .NotIn:=by decide):behindInMarks op b=false:=by
 let j:(op==CmpOp.In)=false:=by cases op <;> first|rfl|exact absurd Á h
 let m:(op==CmpOp.NotIn)=false:=by cases op <;> first|rfl|exact absurd Á h2
 cases b <;> simp[behindInMarks,j,m]
def jF{op:CmpOp}{r:R2}(J:eW X Äx r)(z:ϣ ta)(F:PE X b tb)(G:behindInMarks op b=false):PE X Ϟ Çc:=by
 show Ò;exact wpAny_Compare1 (IJ z F I h λv u S x y j m M O q=>J pins S σ j x y v u Q m M O q) G
def nM(t:TE):TT:=λσ H Q=>t σ H λx H'=>y6 x λk=>Q k H'
def cI(U:eW X Äx r)(M:ϣ ta)(O:PE X b tb)(S:behindInMarks op b=false):PT X Ϟ (nM Çc):=by
 show Ò;refine wpAny_isTrue_Compare1 (aN (M pins s σ H _ I h) λv s1 ⟨x,H1,F,r1,W⟩=>aN (O pins s1 σ H1 _ F W) λu s2 ⟨y,j,G,r2,Y⟩=>
  aN (U pins s2 σ j x y v u _ G r1 r2 Y) λc s3 ⟨z,m,J,r3,k,e,Z⟩=>?_) S
 subst e;cases r3;exact ur ⟨m,J,Z⟩
def IP(r G:R2)(ta tb I:TE):TE:=λσ H Q=>ta σ H λx H1=>tb σ H1 λy m=>r x y m λz j=>y6 z λk=>
 (if k=true then I σ j λW F=>G y W F Q else Q (.bl false) j)
theorem QG(ho:eW X Äx r)(pW:eW X (compareOp op') r')(W:ϣ ta)(Y:PE X b tb)(hc:PE X c tc)(Z:lastMarks [op,op'] [b,c]=false:=by with_unfolding_all rfl):PE X (.Compare a [op,op'] [b,c] pos) (IP r r' ta tb tc):=by
 show Ò;refine Compare_chain (aN (W pins s σ H _ I h) λv s1 ⟨x,H1,O,r1,q1⟩=>chain_link (aN (Y pins s1 σ H1 _ O q1) λu s2 ⟨y,J,S,G,q2⟩=>
  aN (ho pins s2 σ J x y v u _ S r1 G q2) λd s3 ⟨z,j,m,r3,k,e,F⟩=>?_)) Z
 subst e;cases r3;apply ur ?_;cases k with
 |false=>exact ite_ff ⟨.bl false,j,m,Á,F⟩
 |true=>exact ite_tt (chain_last (aN (hc pins s3 σ j _ m F) λw' s4 ⟨z',M,U,r4,q4⟩=>pW pins s4 σ M y z' u w' Q U G r4 q4))
theorem aaN(ho:eW X Äx r)(pW:eW X (compareOp op') r')(ha:ϣ ta)(hb:PE X b tb)(hc:PE X c tc)(hm:lastMarks [op,op'] [b,c]=false:=by with_unfolding_all rfl):PT X (.Compare a [op,op'] [b,c] pos) (nM (IP r r' ta tb tc)):=by
 show Ò;refine isTrue_chain (aN (ha pins s σ H _ I h) λv s1 ⟨x,H1,S,r1,q1⟩=>test_link (aN (hb pins s1 σ H1 _ S q1) λu s2 ⟨y,J,U,G,q2⟩=>
  aN (ho pins s2 σ J x y v u _ U r1 G q2) λd s3 ⟨z,j,m,r3,k,e,F⟩=>?_)) hm
 subst e;cases r3;apply ur ?_;cases k with
 |false=>
  let(k',Z,q'):=F;cases Z;exact ite_ff ⟨j,m,q'⟩
 |true=>
  apply ite_tt (test_last (aN (hc pins s3 σ j _ m F) λw' s4 ⟨z',M,W,r4,q4⟩=>aN (pW pins s4 σ M y z' u w' _ W G r4 q4) λd' s5 ⟨z2,O,Y,r5,k2,e2,q5⟩=>?_));subst e2;cases r5;exact ur ⟨O,Y,q5⟩
def IQ(K:FR)(x:V)(H:Hp)(k:Bool):Prop:=
 match x with
 |.aL=>k=false
 |.bl b=>k=b
 |.int i=>k=(i !=0)
 |.str y=>y.length<=sizeLine/\k=((y.length:Int)!=0)
 |.jn y=>y.size<=sizeLine/\k=((y.size:Int)!=0)
 |.ref p=>(∃xs,ä p xs/\k=!xs.isEmpty)\/(∃xs,ũ p xs/\k=!xs.isEmpty)\/∃kvs,H p=some ē/\k=!kvs.isEmpty
 |_=>False
def aaO(r:KV kvs vs):(!vs.isEmpty)=!kvs.isEmpty:=by
 cases r <;> rfl
def QH(r:bh xs aj):(!aj.toArray.isEmpty)=!xs.isEmpty:=by
 cases r <;> simp
def El:(sizeLine:Nat)<2^63:=by rw[xl];decide
def aaP:aaG X (λx H Q=>∃k,IQ X.K x H k/\Q k H):=by
 intro pins s σ H x v Q I z h;let(k,e,q):=h;let U:=El;let hs:sizeLine=16777216:=xl;cases x with
 |aL=>
  cases z;let j:k=false:=e;subst j;exact truthy_none ⟨H,I,q⟩
 |bl b=>
  cases z;let j:k=b:=e;subst j;exact ur ⟨H,I,q⟩
 |int i=>
  let(t,rfl):=z;let j:k=(i !=0):=e;subst j;exact PySem.P.truthy_int ⟨H,I,q⟩
 |str y=>
  let(t,rfl):=z;obtain⟨S,j⟩:y.length<=sizeLine/\k=((y.length:Int)!=0):=e;subst j;exact PySem.P.truthy_str Å ⟨H,I.tok _,q⟩
 |jn y=>
  let(t,rfl):=z;obtain⟨S,j⟩:y.size<=sizeLine/\k=((y.size:Int)!=0):=e;subst j;exact PySem.W.truthy_bytes Å ⟨H,I.tok _,q⟩
 |ref p=>
  cases z;let j:(∃xs,Àz p xs/\k=!xs.isEmpty)\/(∃xs,bw X.K H p xs/\k=!xs.isEmpty)\/∃kvs,H p=some ē/\k=!kvs.isEmpty:=e;rcases j with ⟨xs,F,j⟩|⟨xs,F,j⟩|⟨kvs,F,j⟩
  .subst j;let(M,r,pl,J):=I.list F;let G:=r.length;exact wpAny_truthy_list pl.isList (by grind) ⟨H,I.tok _,by rw[QH r];exact q⟩
  .subst j;let(M,r,pl,J):=I.tuple F;let G:=r.length;exact truthy_tuple pl (by grind) ⟨H,I.tok _,by rw[QH r];exact q⟩
  .subst j;obtain⟨J,O,vs,r,m⟩:kvs.length<=sizeLine/\(p==sysModules)=false/\∃vs,KV kvs vs/\s.heap.DictOf Ć p vs:=I.ax p _ F;let G:kvs.length=vs.length:=Paired.length r;exact wpAny_truthy_dict O m Å ⟨H,I.tok _,by rw[aaO r];exact q⟩
 |_=>exact(show False from e).elim
def za(m:ϣ ta)(z:∀whole,isTrue a X.env whole=(do let v <-whole;standAt a.pos;holding [v] (truthy v))):
  PT X a (λσ H Q=>ta σ H λx H'=>∃k,IQ X.K x H' k/\Q k H'):=by
 show Ò;exact isTrue_plain (aN (m pins s σ H _ I h) λv S ⟨x,H1,j,G,F⟩=>aaP pins S σ H1 x v Q j G F) (z _)
theorem vals1{x:V}{U:LV}(r:bh [x] U):∃u,U=[u]/\RelV x u:=by
 cases r with
 |cons j m=>cases m;exact(_,Á,j)
theorem vals2(r:bh [x,y] us):∃u W,us=[u,W]/\RelV x u/\RelV y W:=by
 cases r with
 |cons j m=>
  cases m with
  |cons z F=>cases F;exact(_,_,Á,j,z)
def IR(hc:X.calm=true):lS X (.builtin "max") (λxs H Q=>∃i j,xs=[.int i,.int j]/\Q (.int (if j>i then j else i)) H):=by
 intro pins s σ H xs U Q I r h;let(i,j,rfl,q):=h;let(u,W,rfl,(t,rfl),(t',rfl)):=vals2 r;apply max_two_ints Ċ λh' tk k=>⟨_,H,I.kept k,?_,q⟩;by_cases m:j>i
 .rw[af m,af m];exact(_,Á)
 .rw[ah m,ah m];exact(_,Á)
def aaQ:lS X (.builtin "ord") (λxs H Q=>∃x,xs=[.str x]/\x.length=1/\Q (.int (x.cps.getD 0 0:Nat)) H):=by
 intro pins s σ H xs U Q I r h;let(x,rfl,j,q):=h;let(u,rfl,t,rfl):=vals1 r;exact ord_of_one j ⟨.int _,H,I.tok _,⟨_,Á⟩,q⟩
end
structure zb(h:Heap)(x dx C:Addr)(mA:MG):Prop where
 obj:h.get? x=some Ãc
 ns:h.Ns1 dx mA
 ne:dx≠x
def aaR{h:Heap}{dx:Addr}{mA:MG}(n:h.Ns1 dx mA):∃od,h.get? dx=some od/\∀name,PySem.W.lookIn name od=some (mA name):=by
 let(o,es,ep,m,hd,hk,_,j):=n;apply(o,m,λname=>?_);let e:=j name;delta nsFind findBy at e;rw[<-Array.find?_toList] at e;delta PySem.W.lookIn;rw[hd];dsimp only;split
 .symm
 .rename_i q;rw[q] at e;let a:es.toList.any (·.refKey)=false:=by
   rw[List.any_eq_false];intro y F;let(z,t,I):=hk y (Array.mem_toList_iff.mp F);simp[DictEntry.refKey,I]
  symm
def zb.look(I:zb h x dx C mA):∃od,PySem.W.InstAt h x Ãc C (some od)/\∀name,PySem.W.lookIn name od=some (mA name):=
 let ⟨od,ho,hl⟩:=aaR I.ns
 ⟨od,⟨I.obj,rfl,rfl,ho⟩,hl⟩
section
variable{prog:Pg}{w:Wd}{A:Around}{E:VP}{s:Sh}{K:FR}{x dx C f:Addr}{mA:MG}{name:Str}{v:Value}
def get_map{j:Bool}{Q:VP}(X:K.In s.heap)(I:zb s.heap x dx C mA)(z:PySem.W.plainGet K C name=true)(F:PySem.W.hasDictIn K C=true)(m:PySem.W.findIn K ā name=some none) (M:mA name=some v) (Z:PySem.W.handedIn v=true) (h:Q v {s with toks:=s.toks+1}):
  wpAny Ó A (getAttr š name j) Q E s:=by
 let(od,J,G):=I.look;exact PySem.W.get_value X J (PySem.W.plainGet_of z).1 (PySem.W.findObj_own F m Á É) Z h
def aaS{ns:LS}{Q:Unit->Shared->Prop}(X:K.In s.heap)(I:zb s.heap x dx C mA)(hs:PySem.W.findIn K ā "__setattr__"=some (some (.builtin "object.__setattr__"))) (U:PySem.W.plainOver K C=true) (Y:PySem.W.takerIn K C name=some none) (O:PySem.W.hasDictIn K C=true)(Z:PySem.Within mA ns) (hsz:ns.length<=sizeLine)(h:∀h',zb h' x dx C (λy=>if y=name then some v else mA y)->Heap.SameBut dx s.heap h'->Q () {s with heap:=h',toks:=s.toks+2}):
  wpAny Ó A Äl Q E s:=by
 let(od,J,hl):=I.look;apply PySem.W.set_plain X J hs (PySem.W.osa_open (s:={s with toks:=s.toks+1}) (r:=none) X J U Y λb=>?_);let(cd,hc,pX):=PySem.W.any_some O;let hx:s.heap.get? x=some ⟨.ref C,some dx,.plain,#[]⟩:=I.obj;apply aQ (di (aQ (aQ (wpAny_loadPart hx (aQ (PySem.W.Looks.here (s:={s with toks:=s.toks+1}) (PySem.W.looks_clsIn X hc) ?_))))));rw[pX];apply di (a:=some dx) (aQ (di (aQ ?_)));apply wpAny_nsSet1 (s:={s with toks:=s.toks+1}) I.ns λh' M S=>?_;let(oD,G,F,z,m,j):=M.count (PySem.Within.cons name v Z);apply aQ (wpAny_lookBehind z (by rw[m];exact pastItsLine_dict (ia j (by rw[dc];omega))) ?_);exact di (h _ ⟨(S.2 _ (d8 I.ne)).trans I.obj,M,I.ne⟩ S)
def aaW{R:Result->Shared->Prop}{vs:LV}{kw:List (Str×Value)}(X:K.In s.heap)(m:PySem.W.makesIn K C=true)(hi:PySem.W.findIn K ā "__init__"=some Âd) (j:PySem.W.typeIn K Ă=some (.type "function"))(h:codeAny Ó (A.under (.builtin "type.__call__" ⟨.ref C::vs,kw⟩)) (.call Ă ⟨.ref Ï::vs,kw⟩) (PySem.W.InitBack Ï R) {s with heap:=(s.heap.push PySem.W.emptyDict).push Ļ}):
  codeAny Ó A (.call ā ⟨vs,kw⟩) R s:=by
 let(z,g,d,t,os):=s;exact PySem.W.make_core (PySem.W.makes_of X m) (PySem.W.looks_findIn X hi) (λself=>PySem.W.bind_fn X self j) ę h
end
def iu(f:Str)(v:V):List (Str×V)->List (Str×V)
 |[]=>[(f,v)]
 |(g,x)::r=>if g=f then (g,v)::r else (g,x)::iu f v r
theorem IT(f g:Str)(v:V):∀fs:List (Str×V),(iu f v fs).lookup g=if g=f then some v else fs.lookup g:=by
 intro fs;induction fs with
 |nil=>
  show List.lookup g [(f,v)]=_;by_cases h:g=f
  .let j:(g==f)=true:=uv.mpr h;simp only[List.lookup,j,af h]
  .let j:(g==f)=false:=xn.mpr h;simp only[List.lookup,j,ah h]
 |cons m r I=>
  let(k,x):=m;let I:=I;rw[show iu f v ((k,x)::r)=(if k=f then (k,v)::r else (k,x)::iu f v r) from rfl];by_cases hk:k=f
  .rw[af hk];by_cases h:g=k
   .let j:(g==k)=true:=uv.mpr h;simp only[List.lookup,j,af (h.trans hk)]
   .let j:(g==k)=false:=xn.mpr h;simp only[List.lookup,j,ah (λe:g=f=>h (e.trans hk.symm))]
  .rw[ah hk];by_cases h:g=k
   .let j:(g==k)=true:=uv.mpr h;simp only[List.lookup,j,ah (λe:g=f=>hk (h.symm.trans e))]
   .let j:(g==k)=false:=xn.mpr h;simp only[List.lookup,j];exact I
theorem Bo(f:Str)(v:V):∀fs:List (Str×V),f∈(iu f v fs).map (·.1)/\∀g,g∈fs.map (·.1)->g∈(iu f v fs).map (·.1):=by
 intro fs;induction fs with
 |nil=>exact(by simp[iu],λg h=>by simp at h)
 |cons j r z=>
  let(k,x):=j;let(I,m):=z;rw[show iu f v ((k,x)::r)=(if k=f then (k,v)::r else (k,x)::iu f v r) from rfl];by_cases hk:k=f
  .rw[af hk];subst hk;exact(by simp,λg h=>by simpa using h)
  .rw[ah hk];apply(?_,λg h=>?_)
   .rw[aX];exact aP _ I
   .rw[aX] at h⊢;rcases a0.mp h with e|e
    .exact a0.mpr (.inl e)
    .exact aP _ (m g e)
theorem IU(f:Str)(v:V):∀fs:List (Str×V),(iu f v fs).length<=fs.length+1:=by
 intro fs;induction fs with
 |nil=>
  simp[iu]
 |cons j r I=>
  let(k,x):=j;let I:=I;rw[show iu f v ((k,x)::r)=(if k=f then (k,v)::r else (k,x)::iu f v r) from rfl];by_cases hk:k=f
  .rw[af hk,dc,dc];omega
  .rw[ah hk,dc,dc];omega
theorem jW.some_of(r:jW Ãt o):∃u,o=some u/\RelV v u:=by
 cases o with
 |none=>exact(show False from r).elim
 |some u=>exact(u,Á,r)
theorem aaX(r:RelV v u):PySem.W.handedIn u=true:=by
 cases v with
 |aL=>cases (show u=Value.none from r);rfl
 |bl b=>cases (show u=Value.bool b from r);rfl
 |int i=>let(t,e):=(show ∃t,u=Value.int i t from r);cases e;rfl
 |str x=>let(t,e):=(show ∃t,u=Value.str x t from r);cases e;rfl
 |jn b=>let(t,e):=(show ∃t,u=Value.bytes b t from r);cases e;rfl
 |A8 b=>let(t,e):=(show ∃t,u=Value.float b t from r);cases e;rfl
 |ref a=>cases (show u=Value.ref a from r);rfl
 |ty n=>cases (show u=Value.type n from r);rfl
section
variable{P:Pg}{w:Wd}{H H':Hp}{h h':Heap}{a C dx:Addr}{fs zd:List (Str×V)}
def QI(ax:ġ h)(e:H a=some ϝ):∃mA,zb h a dx C mA/\(∀f,jW Ág (mA f))/\PySem.Within mA (fs.map (·.1))/\fs.length<=1000/\H dx=some (.own a):=by
 let(d,z,ne,O,mA,n,r,q):=(show fJ P w H h a ϝ from ax a _ e);exact(mA,⟨O,n,ne⟩,r,q,z,d)
end
structure lh(K:FR)(C:Addr):Prop where
 pg:PySem.W.plainGet K C Str.empty=true
 hd:PySem.W.hasDictIn K C=true
 po:PySem.W.plainOver K C=true
 sa:PySem.W.findIn K ā "__setattr__"=some (some (.builtin "object.__setattr__"))
def lh.get{K:FR}{C:Addr}(c:lh K C)(f:Str):PySem.W.plainGet K C f=true:=c.pg
def gJ(K:FR)(C:Addr)(f:Str):Prop:=PySem.W.findIn K ā f=some none
def gJ.aaY{K:FR}{C:Addr}{f:Str}(n:ϭ f):PySem.W.takerIn K C f=some none:=by
 delta PySem.W.takerIn;rw[show PySem.W.findIn K ā f=some none from n];rfl
section
variable{X:Cx}{pins:bJ}{σ:St}{H:Hp}{s:Sh}{a C dx:Addr}{fs:List (Str×V)}{f:Str}{v:V}{A:Around}{E:VP}
def aaZ{b:Bool}{Q:VP}(I:Ã H s)(e:H a=some ϝ)(c:lh X.K C)(n:gJ X.K C f)(l:fs.lookup f=some v)(h:∀u s',Ã H s'->RelV v u->Q u s'):wpAny È A (getAttr Ğ f b) Q E s:=by
 let(mA,O,r,_,_,_):=QI I.ax e;let(u,m,j):=jW.some_of (v:=v) (o:=mA f) (by grind);exact get_map I.fO O (c.get f) c.hd n m (aaX j) (h u _ (I.tok _) j)
def aa0{y:V}{u:Value}{Q:Unit->Shared->Prop}(I:Ã H s)(e:H a=some ϝ)(c:lh X.K C)(n:gJ X.K C f)(U:fs.length<1000)(M:RelV y u)(h:∀s',Ã (Ū (.ins C dx (iu f y fs))) s'->Q () s'):wpAny È A (setAttr Ğ f u) Q E s:=by
 let(mA,O,r,W,_,m):=QI I.ax e;let J:(fs.map (·.1)).length<=sizeLine:=by rw[az,xl];omega
 apply aaS I.fO O c.sa c.po n.aaY c.hd W J λh' j S=>h _ ?_;let hd:∃o,h'.get? dx=some o:=let ⟨o,_,_,e',_⟩:=j.ns;⟨o,e'⟩;apply I.write (x:=a) (e:=dx) (by rw[e];exact True.intro) (.inr m) (λb q F z=>(S.2 b F).trans z) hd ?_;apply(by rw[aq O.ne];exact m,?_,O.ne,j.obj,_,j.ns,λg=>?_,λg G=>?_)
 .let:=IU f y fs;omega
 .show jW ((iu f y fs).lookup g) (if g=f then some u else mA g);rw[IT];by_cases q:g=f
  .rw[af q,af q];exact M
  .symm
 .by_cases q:g=f
  .rw[q];exact(Bo f y fs).1
  .apply(Bo f y fs).2 g (W g λz=>G ?_);symm
def Inv.made(I:Ã H s):Ã (upd (ğ (.own Ï)) Ï (.ins C s.heap.objs.size [])) {s with heap:=(s.heap.push PySem.W.emptyDict).push Ļ}:=by
 let j:(s.heap.push PySem.W.emptyDict).get? s.heap.objs.size=some PySem.W.emptyDict:=iq s.heap rfl;let z:((s.heap.push PySem.W.emptyDict).push Ļ).get? Ï=some Ļ:=by
  let:=iq (s.heap.push PySem.W.emptyDict) (o:=PySem.W.instObj C s.heap.objs.size) rfl;symm
 let F:(s.heap.push PySem.W.emptyDict).Ns s.heap.objs.size (λ_=>none):=⟨PySem.W.emptyDict,#[],_,j,rfl,(λe G=>absurd G Ä),λ_=>rfl⟩;let m:=I.laid (a:=s.heap.objs.size) (o:=.own Ï) (h':=s.heap.push PySem.W.emptyDict) (t':=s.toks) (λb u q=>dq _ q) (bU _) ⟨_,j⟩;apply m.laid (a:=s.heap.objs.size+1) (o:=.ins C s.heap.objs.size []) (t':=s.toks) (λb u q=>dq _ q) (DF (qP _ _)) ?_;let ne:s.heap.objs.size≠s.heap.objs.size+1:=ft (YN _);refine⟨by rw[aq ne,ao],dv _,ne,z,λ_=>none,(Heap.Ns1.of_empty F).at λo q=>dq _ q,λ_=>True.intro,λy J=>absurd rfl J⟩
def aa1(j:attributeBase e f env (eval e env)=eval e env)(h:wpAny Ó A (eval e env) (λo S=>wpAny Ó A (getAttr o f true) Q E S) E s):wpAny Ó A (eval (.Attribute e f pos) env) Q E s:=
 Attribute_any_ h (by rw[arm_eval_Attribute,j])
end
def fQ(K:FR)(ta:TE)(f:Str):TE:=λσ H Q=>ta σ H λx H1=>∃a C dx fs v,x=.ref a/\H1 a=some ϝ/\lh K C/\ϭ f/\fs.lookup f=some v/\Q v H1
def Em(K:FR)(ta m:TE)(f:Str):TS:=λD σ H=>m σ H λy H1=>ta σ H1 λx j=>∃a C dx fs,x=.ref a/\j a=some ϝ/\lh K C/\ϭ f/\fs.length<1000/\
 D.nx σ (upd j a (.ins C dx (iu f y fs)))
section
def bg(G:Ϣ ta)(F:attributeBase e f X.env Ϛ=eval e X.env):PE X (.Attribute e f pos) (fQ X.K ta f):=by
 show Ò;apply aa1 F (aN (G pins s σ H _ I h) λu S ⟨x,H1,j,M,a,C,dx,fs,v,ex,z,c,n,l,q⟩=>?_);subst ex;obtain rfl:u=Value.ref a:=M;exact aaZ j z c n l λU O m J=>⟨v,H1,m,J,q⟩
def fk(G:PE X o ta)(J:PE X jl tv)(hs:swapsWith jl (some (.Attribute o f jU)) pos.line X.env=pure false):PS X (.Assign [.Attribute o f jU] jl pos) (Em X.K ta tv f):=by
 intro pins s σ H D I h;apply YO (aN (J pins s σ H _ I h) λu W ⟨y,H1,j,U,q⟩=>aN (G pins W σ H1 _ j q) λO Z ⟨x,Y,m,S,a,C,dx,fs,ex,F,c,n,l,M⟩=>?_) hs;subst ex;obtain rfl:O=Value.ref a:=S;exact aa0 m F c n l U λs3 z=>⟨σ,_,z,M⟩
def aa2:R2:=gu λi j=>.int (i+j)
end
section
variable{X:Cx}{pins:bJ}{σ:St}{H:Hp}{s:Sh}{A:Around}{E:VP}{Q:VP}{c:Value}{b:Bool}
end
structure dy(k:Nat)(A:Around):Prop where
 hd:A.handled=none
 dp:A.depth+3*k+5<recursionLimit
 un:A.units+16*k+200<cLine
def dy.mono(r:dy k A)(h:j<=k):dy j A:=⟨r.hd,by let:=r.dp;omega,by let:=r.un;omega⟩
def dy.deeper(r:dy (k+1) A)(env:Env):dy k (A.deeper env):=
 ⟨r.hd,by let:=r.dp;show A.depth+1+3*k+5<_;omega,by let:=r.un;show A.units+3+16*k+200<_;omega⟩
def aa3{A:Around}{C:Addr}{U:LV}{kw:List (Str×Value)}:(A.under (.builtin "type.__call__" ⟨.ref C::U,kw⟩)).depth=A.depth+1:=by
 rfl
def aa4{A:Around}{C:Addr}{U:LV}{kw:List (Str×Value)}:(A.under (.builtin "type.__call__" ⟨.ref C::U,kw⟩)).units=A.units+1:=by
 rfl
def dy.make(r:dy (k+1) A)(C:Addr)(U:LV)(kw:List (Str×Value)):dy k (A.under (.builtin "type.__call__" ⟨.ref C::U,kw⟩)):=
 ⟨r.hd,by let:=r.dp;rw[aa3];omega,by let:=r.un;rw[aa4];omega⟩
def dy.depth(r:dy k A):A.depth<recursionLimit:=by let:=r.dp;omega
def dy.units(r:dy k A):A.units+64<cLine:=by let:=r.un;omega
def dy.aa5(r:dy k A):A.units<cLine:=by let:=r.un;omega
def dQ:TA:=λ_ H Q=>Q [] H
def bq(ta:TE)(m:TA):TA:=λσ H Q=>ta σ H λx H1=>m σ H1 λxs j=>Q (x::xs) j
section
def ag:PA X [] dQ:=λ_ _ _ _ H Q I h=>Pu ⟨[],H,I,.nil,h⟩
def ae(F:Ϣ te)(hr:PA X es t)(hs:starEach (e::es) X.env=(false,eval e X.env)::starEach es X.env:=by rfl):PA X (e::es) (bq te t):=by
 intro pos pins s σ H Q I h;rw[hs];show wpAny _ _ (spliced ((false,eval e X.env)::backTo pos õ)) _ _ s;apply DL (aN (F pins s σ H _ I h) λu S ⟨x,H1,m,M,G⟩=>?_);exact aN (hr pos pins S σ H1 _ m G) λW U ⟨xs,j,z,O,J⟩=>⟨x::xs,j,z,.cons M O,J⟩
def xG(t:TA):TE:=λσ H Q=>t σ H λxs H1=>xs.length<=sizeLine/\∀p,H1 p=none->Q ĥ (upd H1 p Ài)
def zf(t:TA):TE:=λσ H Q=>t σ H λxs H1=>xs.length<=sizeLine/\∀p,H1 p=none->Q ĥ (upd H1 p Àj)
def uH{x1}(h:PA X es t):PE X (.Tuple es x1 pos) (xG t):=by
 intro pins s σ H Q I F;apply wpAny_Tuple_spliced (aN (h pos pins s σ H _ I F) λU S ⟨xs,H1,j,r,z,q⟩=>⟨by rw[<-r.length];exact z,?_⟩);let m:H1 S.heap.objs.size=none:=j.ax.fresh (bU _);apply(.ref S.heap.objs.size,upd H1 S.heap.objs.size Ài,j.laid (t':=S.toks) (λb u e=>dq _ e) (bU _) ?_,Á,q _ m);exact(z,U,r,⟨_,iq _ Á,Á,_,Á⟩)
def d9(h:PA X es t):PE X (.List es pos) (zf t):=by
 intro pins s σ H Q I F;apply wpAny_List_spliced (aN (h pos pins s σ H _ I F) λU S ⟨xs,H1,j,r,z,q⟩=>⟨by rw[<-r.length];exact z,?_⟩);let m:H1 S.heap.objs.size=none:=j.ax.fresh (bU _);apply(.ref S.heap.objs.size,upd H1 S.heap.objs.size Àj,j.laid (t':=S.toks) (λb u e=>dq _ e) (bU _) ?_,Á,q _ m);exact(z,U,0,r,iq _ Á)
end
abbrev Sp:=au->Hp->VK->XK->Prop
abbrev nN:=List Env->Hp->Shared->XK->VP
structure oR(P:Pg)(w:Wd)(K:FR)(mg:MG)(base:Heap)(A:Around)(outer:List Env)(s:Sh)(H:Hp):Prop where
 frames:A.frames=some outer
 mod:Mod K mg base
 bs:∀b o,base.get? b=some o->s.heap.get? b=some o/\H b=none
 nG:base.objs.size<=s.heap.objs.size
 k7:s.heap.FunFrames base outer
 pV:∀b∈nF outer,H b=none
 ax:ġ s.heap
 bare:AllBare s.gens
def CE(outer:List Env)(P:Pg)(w:Wd)(H:Hp)(s:Sh)(Q:VK)(u:Value)(s':Sh):Prop:=
 ∃v H',s'.os=s.os/\AllBare s'.gens/\Un (nF outer) [] H H' s.heap s'.heap/\dX P w H' s'.heap/\RelV v u/\Q v H'
def CR(CX:nN)(outer:List Env)(P:Pg)(w:Wd)(H:Hp)(s:Sh)(Q:VK)(E:XK)(r:Result)(s':Sh):Prop:=
 match r with
 |.ok (.ret u)=>CE outer P w H s Q u s'
 |.ok _=>False
 |.error e=>CX outer H s E e s'
structure a9(P:Pg)(w:Wd)(K:FR)(mg:MG)(base:Heap)(CX:nN)(k:Nat)(f:Addr)(fd:FD)(ps:LS)(sp:Sp):Prop where
 len:∀vs H Q E,sp vs H Q E->vs.length=ps.length
 run:∀(A:Around)(outer:List Env)(s:Sh)(H:Hp)(args:Args)(us:LV)(vs:au)(Q:VK)(E:XK),dy k A->ď H->BindsTo s fd args Àl->bh vs us->sp vs H Q E->
  codeAny Àm A (.call Ă args) (CR CX outer P w H s Q E) s
def oR.make{P:Pg}{w:Wd}{K:FR}{mg:MG}{base:Heap}{A:Around}{outer:List Env}{s:Sh}{H:Hp}(e:ď H)(C:Addr)(U:LV)(kw:List (Str×Value)):
  oR P w K mg base (A.under (.builtin "type.__call__" ⟨.ref C::U,kw⟩)) outer s H:=⟨by first|exact e.frames|(simpa [Around.under,Code.envs,Code.isFrame,pushEnvs] using e.frames),e.mod,e.bs,e.nG,e.k7,e.pV,e.ax,e.bare⟩
section
variable{X:Cx}{pins:bJ}{σ:St}{H:Hp}{s s':Sh}
def Inv.zg(I:Ã H s):oR X.prog X.w X.K X.mg X.base X.A X.stack s H:=
 ⟨I.ok.frames,I.ok.mod,I.bs,ia I.ok.nG I.sz,I.stack,I.D4,I.ax,I.bare⟩
def Inv.after(I:Ã H s)(h:CE X.stack X.prog X.w H s Q u s'):ò Q u s':=by
 let(v,H',os,bare,un,ax,r,q):=h;let(j,g,d,t,O):=s';obtain rfl:O=s.os:=os;exact(v,H',I.call (h':=j) (g':=g) (d':=d) (t':=t) (ch:=[]) un ax bare ķ,r,q)
end
def ie(sp:Sp)(I:au)(E:XK)(t:TA):TE:=λσ H Q=>t σ H λvs H1=>sp (vs++I) H1 Q E
def QJ(C:Addr)(sp:Sp)(I:au)(E:XK)(t:TA):TE:=λσ H Q=>t σ H λvs H1=>∀x dx,H1 x=none->H1 dx=none->dx≠x->
 sp (.ref x::(vs++I)) (upd (upd H1 dx Åj) x Âo) (λv j=>v=.aL/\Q š j) E
def Binds(K:FR)(fd:FD)(ps:LS)(j:LV):Prop:=
 ∀(s:Sh)(U:LV),K.In s.heap->(U++j).length=ps.length->BindsTo s fd ⟨U,[]⟩ (ps.zip (U++j))
def Binds.all{K:FR}{fd:FD}{ps:LS}(h:∀us:LV,us.length=ps.length->bindArgs fd ⟨us,[]⟩=pure Àl):Binds K fd ps []:=λs us _ j=>by
 rw[jV] at j⊢;exact .of_eq (h us j)
def uI(CX:nN)(X:Cx)(E:XK):Prop:=∀(pins:bJ)(σ:St)(H:Hp)(s:Sh)(e:Value)(s':Sh),Ã H s->CX X.stack H s E e s'->X.xe e s'
section
def aa7(F:ú CX k f fd ps sp)(hr:dy k X.A)(z:ł ds)(hd:bh i9 ds)(J:uI CX X E)(I:Ã H s) (r:bh vs us) (h:sp (vs++i9) H Q E):wpAny È X.A (call Ă us) (ò Q) X.xe s:=by
 let m:bh (vs++i9) (us++ds):=r.append hd;let G:(us++ds).length=ps.length:=by rw[<-m.length];exact F.len _ _ _ _ h
 apply AR (vz (F.run X.A X.stack s H ⟨us,[]⟩ (us++ds) (vs++i9) Q E hr I.zg (z s us I.fO G) m h) λr s' j=>?_);cases r with
 |error e=>exact J pins σ H s e s' I j
 |ok fl=>
  cases fl with
  |ret u=>exact I.after j
  |next=>exact False.elim j
  |brk=>exact False.elim j
  |cont=>exact False.elim j
def mq(F:ú CX k f fd ps sp)(hr:dy k X.A)(J:Gl X x)(M:X.mg x=some Ă)(hk:PySem.W.keepIn X.K Ă=true)(z:ł ds)(hd:bh i9 ds)(O:uI CX X E)(m:PA X (e::es) t) (S:(x==("__debug__":Str))=false:=by decide) (G:starEach (e::es) X.env=(false,eval e X.env)::starEach es X.env:=by rfl) (j:(backTo pos õ).any (·.1)=false:=by rfl):
  PE X (.Call ώ (e::es) [] pos) (ie sp i9 E t):=by
 show Ò;apply xo (vJ I J M ?_ S);refine PySem.W.callWith_K (h₀:=X.base) I.ok.mod.sE hk (aN (m pos pins s σ H _ I h) λY U ⟨vs,H1,I1,r,q⟩=>Áx) G j;exact aa7 F hr z hd O I1 r q
structure Mk(K:FR)(C f:Addr):Prop where
 makes:PySem.W.makesIn K C=true
 init:PySem.W.findIn K ā "__init__"=some Âd
 fn:PySem.W.isFn K Ă=true
 kp:PySem.W.keepIn K ā=true
def aa8{pins:bJ}{σ:St}{H:Hp}{s:Sh}{Q:VK}{U:LV}{vs:au}(M:Mk X.K C f)(F:ú CX k f fd ps sp)(hr:dy (k+1) X.A)(W:ł ds)(hd:bh i9 ds)(Z:uI CX X E) (I:Ã H s) (r:bh vs U)(h:∀x dx,H x=none->H dx=none->dx≠x->sp (.ref x::(vs++i9)) (upd (upd H dx Åj) x Âo) (λv J=>v=.aL/\Q š J) E):
  wpAny È X.A (call ā U) (ò Q) X.xe s:=by
 let z:=h Ï s.heap.objs.size (I.ax.fresh (YQ _)) ī (ft (YN _));let m:=Inv.made (C:=C) I;let G:bh (V.ref Ï::(vs++i9)) (Value.ref Ï::(U++ds)):=.cons rfl (r.append hd);let Y:(Value.ref Ï::U++ds).length=ps.length:=by
  let e:=G.length;rw[F.len _ _ _ _ z] at e;symm
 refine AR (aaW (f:=f) I.fO M.makes M.init (uv.mp M.fn) (vz (F.run _ X.stack _ _ ⟨Value.ref Ï::U,[]⟩ (Value.ref Ï::(U++ds)) _ _ E (hr.make C U [])
  (m.zg.make C U []) (W _ (Value.ref Ï::U) m.fO Y) G z) λr s' j=>?_))
 cases r with
 |error e=>exact Z pins σ _ _ e s' m j
 |ok fl=>
  cases fl with
  |ret u=>
   let(v,H',O,rv,S,q3):=m.after j;subst S;exact(rv,⟨V.ref Ï,H',O,Á,q3⟩)
  |next=>exact False.elim j
  |brk=>exact False.elim j
  |cont=>exact False.elim j
def aa9(M:Mk X.K C f)(F:ú CX k f fd ps sp)(hr:dy (k+1) X.A)(J:Gl X x)(O:X.mg x=some ā)(z:ł ds)(hd:bh i9 ds)(S:uI CX X E)(m:PA X (e::es) t) (U:(x==("__debug__":Str))=false:=by decide) (G:starEach (e::es) X.env=(false,eval e X.env)::starEach es X.env:=by rfl) (j:(backTo pos õ).any (·.1)=false:=by rfl):
  PE X (.Call ώ (e::es) [] pos) (QJ C sp i9 E t):=by
 show Ò;apply xo (vJ I J O ?_ U);refine PySem.W.callWith_K (h₀:=X.base) I.ok.mod.sE M.kp (aN (m pos pins s σ H _ I h) λZ Y ⟨vs,H1,I1,r,q⟩=>Áx) G j;exact aa8 M F hr z hd S I1 r q
end
structure bO(N P:LS)(sc:Scope):Prop where
 kind:sc.kind=.function
 co:sc.isCoroutine=false
 gen:sc.isGenerator=false
 nd:N.Nodup
 pre:N.take P.length=P
 par:∀x∈P,sc.names.lookup x=some .local\/sc.names.lookup x=some .cell
 aba:∀y∈sc.names,y.2≠ .free
theorem abb{kindOf:Str->Option NameKind}{x:Str}{binds:List (Str×Value)}:∀{m:MG},(∀v,(x,v)∉binds)->bindL kindOf binds m x=m x:=by
 induction binds with
 |nil=>exact @λ_ _=>Á
 |cons j r I=>
  let(n,v):=j;intro m h;delta bindL;rw[I λw z=>h w (aP _ z)];split
  .let:x≠n:=by rintro rfl;exact h v fG
   simp[this]
  .rfl
theorem abc{kindOf:Str->Option NameKind}{x:Str}{binds:List (Str×Value)}:∀{m:MG},(∀v,(x,v)∉binds)->bindC kindOf binds m x=m x:=by
 induction binds with
 |nil=>exact @λ_ _=>Á
 |cons j r I=>
  let(n,v):=j;intro m h;delta bindC;rw[I λw z=>h w (aP _ z)];split
  .rfl
  .let:x≠n:=by rintro rfl;exact h v fG
   simp[this]
def abd{kindOf:Str->Option NameKind}{x:Str}{v:Value}{P:LS}:∀{vs:LV}{i:Nat}{m:MG},P.Nodup->P[i]? =some x->vs[i]? =some v->kindOf x=some .local->
  bindL kindOf (P.zip vs) m x=some v:=by
 induction P with
 |nil=>intro _ _ _ _ h;simp at h
 |cons p P I=>
  intro vs i m nd j h2 hk;cases vs with
  |nil=>simp at h2
  |cons w vs=>
   show bindL kindOf ((p,w)::P.zip vs) m x=_;delta bindL;cases i with
   |zero=>
    simp at j h2;subst j;subst h2;rw[abb λv z=>(kO.mp nd).1 (DM z).1,af hk];simp
   |succ i=>exact I (kO.mp nd).2 j h2 hk
def abe{kindOf:Str->Option NameKind}{x:Str}{v:Value}{P:LS}:∀{vs:LV}{i:Nat}{m:MG},P.Nodup->P[i]? =some x->vs[i]? =some v->kindOf x≠some .local->
  bindC kindOf (P.zip vs) m x=some v:=by
 induction P with
 |nil=>intro _ _ _ _ h;simp at h
 |cons p P I=>
  intro vs i m nd j h2 hk;cases vs with
  |nil=>simp at h2
  |cons w vs=>
   show bindC kindOf ((p,w)::P.zip vs) m x=_;delta bindC;cases i with
   |zero=>
    simp at j h2;subst j;subst h2;rw[abc λv z=>(kO.mp nd).1 (DM z).1,ah hk];simp
   |succ i=>exact I (kO.mp nd).2 j h2 hk
def start(N:LS)(vs:au):St:=vs.map some++List.replicate (N.length-vs.length) none
def lV(CX:nN)(P:Pg)(w:Wd)(K:FR)(mg:MG)(base:Heap)(N:LS)(cQ:Str)(scope:Scope)(f:Addr)(cd:Value)(A:Around)(outer:List Env)(s:Sh)(H:Hp)(E:XK):Cx where
 prog:=P
 w:=w
 K:=K
 mg:=mg
 base:=base
 A:=A.deeper ż
 N:=N
 ic:=s
 qV:=H
 env:=envOfC cQ scope s.heap.objs.size f cd
 outer:=outer
 stack:=envOfC cQ scope s.heap.objs.size f cd::outer
 ex:=[]
 calm:=true
 fn:=λ_=>true
 pn:=[]
 xe:=λe s'=>wpAny Àm (A.deeper ż) (leaving ż e) (λ_ j=>CX outer H s E e j) (λm j=>CX outer H s E m j) s'
def QK{S:Scope}{n:Nat}{x:Str}(h:S.names.lookup x=some .cell):∃c,(cellsFrom n S.names []).lookup x=some c:=by
 let q:=PySem.W.cellsFrom_some S.names n [] (.inl h);exact HK.mp q
def QL{CX:nN}{P:Pg}{w:Wd}{K:FR}{mg:MG}{base:Heap}{N ps:LS}{cQ:Str}{scope:Scope}{f:Addr}{cd:Value}{A:Around}{outer:List Env}{s J:Sh}{H:Hp}{E:XK}{us:LV}{vs:au}(S:bO N ps scope) (hd:A.handled=none) (j:ď H) (Z:vs.length=ps.length) (r:bh vs us)(x:InCallC s s.heap.objs.size (bindL (envOfC cQ scope s.heap.objs.size f cd).kindOf Àl λ_=>none) (cellsFrom Ï scope.names []) (bindC (envOfC cQ scope s.heap.objs.size f cd).kindOf Àl λ_=>none) J):
  Inv (Į scope f cd A outer s H E) [] Ÿ H J:=by
 let W:ps.length<=N.length:=by let:=cJ List.length S.pre;rw[nr] at this;omega
 let(F,tk,rfl,hk):=x.done;let U:∀b:Addr,b∉(Į scope f cd A outer s H E).ex:=λb z=>absurd (show b∈([]:LA) from z) Ä;apply⟨⟨j.mod,S.kind,Á,Á,bU _,λy z c F h2=>?_,λy hy=>?_,λy c _ h=>?_,λ_=>hd,Around.frames_deeper j.frames,.inr ⟨Á,Á⟩,λb z=>absurd z (U b),j.bs,j.nG,λb _ _=>U b,λb z=>absurd z (U b),j.k7,j.pV⟩,
  rfl,j.bare,Un.kept hk,⟨_,x.toInCall.ns,λi y v F h2 Y=>?_⟩,λy c h=>⟨_,x.cell y c h⟩,j.ax.fresh (bU _),λy c h=>?_,λp m=>absurd (show p∈([]:bJ) from m) Ä,j.ax.kept hk,?_⟩
 .exact name_of_addr x.apart (PySem.mem_of_lookup F) (PySem.mem_of_lookup h2)
 .let hy:scope.names.lookup y=some .cell\/scope.names.lookup y=some .free:=hy;rcases hy with hy|hy
  .exact QK hy
  .exact absurd Á (S.aba _ Âl)
 .exact pN (x.above y c (PySem.mem_of_lookup h))
 .let hi:i<vs.length:=by
   delta start at h2;by_cases hi:i<vs.length
   .exact hi
   .rw[Pw (À hi)] at h2;rw[List.getElem?_replicate] at h2;split at h2 <;> cases h2
  let M:vs[i]? =some v:=by
   delta start at h2;rw[HL (À hi),bz] at h2;cases e:vs[i]? with
   |none=>rw[e] at h2;cases h2
   |some a=>rw[e] at h2;cases h2;rfl
  let(u,I,O):=r.get M;let m:ps[i]? =some y:=by
   rw[<-S.pre,YR Å];exact F
  let G:ps.Nodup:=by rw[<-S.pre];exact S.nd.sublist (List.take_sublist _ _)
  apply(u,O,?_);rcases S.par y (bI m) with k|k
  .exact .inl ⟨k,abd G m I k⟩
  .let(c,e):=QK (n:=s.heap.objs.size+1) k;apply .inr ⟨.inl k,c,e,?_⟩;let q:=x.cell y c e;rw[abe G m I (by show scope.names.lookup y≠_;rw[k];decide)] at q;exact q
 .exact j.ax.fresh (pN (x.above y c (PySem.mem_of_lookup h)))
 .delta start;show _=N.length;rw[lJ,az,List.length_replicate];omega
def QN{CX:nN}{P:Pg}{w:Wd}{K:FR}{mg:MG}{base:Heap}{k:Nat}{f:Addr}{name cQ:Str}{Y:Arguments}{G:List Stmt}{scope:Scope}{M kV O pm aG ct oc:Value}{F od:OA}{ny:AO} {N ps:LS} {sp:Sp} (lk:K.lookup f=some ⟨oc,od,.func (PySem.W.fnOf name cQ Y G scope M kV O pm F aG ct),ny⟩) (lg:PySem.W.codeIn K aG cQ=true) (S:bO N ps scope)(len:∀vs H Q E,sp vs H Q E->vs.length=ps.length)(uK:∀(A:Around)(outer:List Env)(s:Sh)(H:Hp)(vs:au)(Q:VK)(E:XK),dy k (A.deeper (envOfC cQ scope s.heap.objs.size f aG))->sp vs H Q E->
   ∃t,k9 Àf G t/\t {nx:=λ_ H'=>Q .aL H',rt:=Q} Ÿ H):
  a9 P w K mg base CX (k+1) f (PySem.W.fnOf name cQ Y G scope M kV O pm F aG ct) ps sp:=by
 apply(len,λA outer s H args us vs Q E hr j hb r U=>?_);let hl:=len _ _ _ _ U;let z:K.In s.heap:=j.mod.sE.keeps λb o e=>(j.bs b o e).1;let DB:s.heap.NoLimit:=j.mod.nolimit.keeps λb o e=>(j.bs b o e).1;let IV:∀y∈ps.zip us,scope.names.lookup y.1=some .local\/(scope.names.lookup y.1=some .cell/\((cellsFrom Ï scope.names []).lookup y.1).isSome=true):=λ⟨n,v⟩ hy=>by
  rcases S.par n (DM hy).1 with q|q
  .symm
  .exact .inr ⟨q,PySem.W.cellsFrom_some _ _ _ (.inl q)⟩
 apply codeAny_call_function hr.depth (z _ _ lk) Á S.co S.gen Á (PySem.W.codeRec_of z lg) (hb _ _ _ _ ?_);apply ap7 S.kind IV λenv he Z x=>?_;subst he;apply(DB.keeps x.toInCall.keep,codeAny_func ?_);let(t,ht,hq):=uK A outer s H vs Q E (hr.deeper _) U;let I:Inv Àf [] Ÿ H Z:=QL S hr.hd j hl r x;apply i6 (ht [] Z Ÿ H _ I hq) (λfl s' hs=>?_) λe s' hs=>hs;let fin:∀{σ':St}{H':Hp}{v:V}{u:Value},Inv Àf [] σ' H' s'->RelV v u->Q v H'->CE outer P w H s Q u s':=
  λ{σ' H' v u}J m q=>⟨v,H',J.os,J.bare,J.base,J.ax,m,q⟩
 cases fl with
 |ret u=>
  let(v,σ',H',J,m,q):=hs;exact fin J m q
 |next=>
  let(σ',H',J,q):=hs;exact fin (v:=V.aL) (u:=Value.none) J Á q
 |brk=>
  let(_,_,_,q):=hs;symm
 |cont=>
  let(_,_,_,q):=hs;symm
section
variable{X:Cx}{x:Str}{p pos:Pos}{e:Expr}{es:List Expr}{t:TA}{id T:String}{r:au->Hp->VK->Prop}
def rh(r:au->Hp->VK->Prop)(t:TA):TE:=λσ H Q=>t σ H λvs H1=>r vs H1 Q
def df(hc:lS X ϒ r)(hg:Gl X x)(hm:X.mg x=none)(J:bootBuiltins x=some ϒ)(z:PA X (e::es) t)(G:x≠"__name__":=by decide)(M:(x==("__debug__":Str))=false:=by decide)(F:starEach (e::es) X.env=(false,eval e X.env)::starEach es X.env:=by rfl) (m:(backTo pos õ).any (·.1)=false:=by rfl):PE X (.Call ώ (e::es) [] pos) (rh r t):=by
 show Ò;apply xo (Àk J ?_ G M);exact ap8 (aN (z pos pins s σ H _ I h) λW U ⟨vs,H1,j,S,O⟩=>hc pins U σ H1 vs W Q j S O) F m
def xH(hc:lS X (.type T) r)(hg:Gl X x)(hm:X.mg x=none)(J:bootBuiltins x=some (.type T))(z:PA X (e::es) t)(G:x≠"__name__":=by decide)(M:(x==("__debug__":Str))=false:=by decide)(F:starEach (e::es) X.env=(false,eval e X.env)::starEach es X.env:=by rfl) (m:(backTo pos õ).any (·.1)=false:=by rfl):PE X (.Call ώ (e::es) [] pos) (rh r t):=by
 show Ò;apply xo (Àk J ?_ G M);exact DK (aN (z pos pins s σ H _ I h) λW U ⟨vs,H1,j,S,O⟩=>hc pins U σ H1 vs W Q j S O) F m
end
end L2
namespace HT
open PySem PyProof.Rows
def lexLt:LI->LI->Bool
 |[],[]=>false
 |[],_::_=>true
 |_::_,[]=>false
 |x::xs,y::ys=>if x=y then lexLt xs ys else decide (x<y)
def uL(x y:Int)(xs ys:LI):lexLt (x::xs) (y::ys)=if x=y then lexLt xs ys else decide (x<y):=rfl
def QO:lexLt [] []=false:=rfl
def QP(y:Int)(ys:LI):lexLt [] (y::ys)=true:=rfl
def QQ(x:Int)(xs:LI):lexLt (x::xs) []=false:=rfl
def QR(A:Around)(s:Sh)(a:Int)(t:Tok)(c:Int)(u:Tok):∃e,SeqAt.EqAt A s (.int a t) (.int c u) e/\(e=true↔a=c):=
 ⟨(a==c),SeqAt.EqAt.int_int a t c u,by simp⟩
def IW(A:Around)(s:Sh)(a:Int)(t:Tok)(c:Int)(u:Tok)(prog:Pg)(w:Wd)(E:VP)(Q:VP)(h:Q (.bool (decide (a<c))) s):
  wpAny Ó A (richCompare .Lt (.int a t) (.int c u)) Q E s:=
 (PyProof.Rows.lt_int h:wpAny Ó A (compareOp .Lt (.int a t) (.int c u)) Q E s)
section
open PySem.SeqAt
open PySem.AutoSeq1 (wpAny_loadPart')
open PySem.MeetsSeq PySem.MeetsSeq2 PySem.MeetsSeq3
def abf(l b:Addr)(items I:Array Value)(n n2:Nat)(dd mr:OA)(sl nO:AO)(ns ms:LI)(hi:IntsAre items.toList ns)(hj:IntsAre I.toList ms):
  Meets (Builtin.«tuple.__lt__» ⟨[.ref l,.ref b],[]⟩)
   (λ_ R s=>s.heap.get? l=some {cls:=.type "tuple",dict:=dd,data:=.seq items n,slots:=sl}/\s.heap.get? b=some {cls:=.type "tuple",dict:=mr,data:=.seq I n2,slots:=nO}/\
    R (.ok (.ret ύ)) s):=
 .of_wp λprog w A R s h=>by
  let(J,g,d,tk,os):=s;let(hl,hb,h):=h;let f2:=aqa;let z1:items.size=ns.length:=by rw[<-hi.length];simp
  let z2:I.size=ms.length:=by rw[<-hj.length];simp
  wp_walk using jm hl,jm hb,wpAny_forIn_list _ (λbQ b s'=>b.1=none/\s'=⟨J,g,d,tk,os⟩/\∃(vs W:LV)(S M:LI),bQ=vs.zip W/\
   IntsAre vs S/\IntsAre W M/\S.length+I.size=M.length+items.size/\R (.ok (.ret (.bool (lexLt S M)))) ⟨J,g,d,tk,os⟩) _
  case turn=>
   rintro⟨y,x⟩ bQ b s' ⟨O,rfl,vs,W,S,M,j,Z,U,z,m⟩;cases Z with
   |nil=>rw[List.zip_nil_left] at j;cases j
   |cons a t F=>
    cases U with
    |nil=>rw[List.zip_nil_right] at j;cases j
    |cons c u G=>
     rw[DN] at j;injection j with hyx hrest;injection hyx with hy hx;subst hy hx;rw[uL] at m;simp only[dc] at z;let(e,he,Y):=QR A.in1 ⟨J,g,d,tk,os⟩ a t c u;apply aQ (he prog w _ _ ?_);cases e with
     |true=>
      rw[af (Y.mp rfl)] at m
      wp_walk
      exact(Á,Á,_,_,_,_,hrest,F,G,by omega,m)
     |false=>
      rw[ah (λq=>absurd (Y.mpr q) eC)] at m;let rj:=IW A.in1 ⟨J,g,d,tk,os⟩ a t c u prog w
      wp_walk using rj
      exact(_,Á,À m)
  case fin=>
   rintro⟨b1,b2⟩ s' ⟨O,rfl,vs,W,S,M,j,Z,U,z,m⟩;simp only at O;subst O;let hv:lexLt S M=decide (items.size<I.size):=by
    cases Z with
    |nil=>
     cases U with
     |nil=>
      simp only[sk] at z;rw[QO];exact(f7 Å).symm
     |cons c u hw=>
      simp only[sk,dc] at z;rw[QP];exact(eP Å).symm
    |cons a t hv=>
     cases U with
     |nil=>
      simp only[sk,dc] at z;rw[QQ];exact(f7 Å).symm
     |cons c u hw=>
      rw[DN] at j;cases j
   rw[hv] at m
   wp_walk
   exact(_,Á,by simpa [Builtin.Tuple.tupleCompareSizes] using m)
  case h=>
   exact(Á,Á,items.toList,I.toList,ns,ms,Á,hi,hj,by omega,h)
end
section
def abg(M:IsTup s.heap l items)(G:IsTup s.heap b iD)(hi:IntsAre items.toList ns)(J:IntsAre iD.toList ms)(O:A.units<cLine) (h:Q ύ s):wpAny Ó A (compareOp .Lt Åi (.ref b)) Q E s:=by
 let((cls,dd,data,sl),z,hc,n,hd):=id M;let((Y,S,data2,W),j,I,U,m):=id G;simp only at hc hd I m;subst hc hd I m;exact Px (op:=.Lt) ⟨_,z,Á⟩ ⟨_,j,Á⟩ PySem.F.slot_tuple_lt PySem.F.entry_tuple_lt (PySem.F.args_tuple_lt_2 _ _) (abf l b items iD n U dd S sl W ns ms hi J)
  ⟨z,j,show Value.bool (lexLt ns ms)≠Value.notImplemented/\Q ύ s from⟨(λx=>nomatch x),h⟩⟩ O
def mw(n d:Nat):Option Int->Nat
 |none=>d
 |some v=>if v<0 then (v+(n:Int)).toNat else min v.toNat n
def QT(n d:Nat):mw n d none=d:=rfl
def QU(n d k:Nat):mw n d (some (k:Int))=min k n:=by
 rfl
end
end HT
namespace L2
open PySem PySem.Spec PyProof.Rows
abbrev TO:=St->Hp->(Option Int->Hp->Prop)->Prop
def PO(X:Cx)(e:Option Expr)(t:TO):Prop:=
 ∀(pins:bJ)(s:Sh)(σ:St)(H:Hp)(Q:Option Int->Hp->Prop),Ã H s->t σ H Q->
  wpAny È X.A (evalPart e X.env) (λu s'=>∃o H',Ã H' s'/\IsPart u o/\Q o H') X.xe s
def QV:TO:=λ_ H Q=>Q none H
def QW(t:TE):TO:=λσ H Q=>t σ H λx H1=>∃i,x=.int i/\Q (some i) H1
theorem intsAre_of{ns:LI}:∀{U:LV},bh Ŧ U->IntsAre U ns:=by
 induction ns with
 |nil=>intro U r;rw[lK] at r;cases r;exact .nil
 |cons n ns I=>
  intro U r;rw[aX] at r;cases r with
  |cons j m=>
   let(t,e):=j;subst e;exact .cons n t (I m)
section
variable{X:Cx}{e:Expr}{te:TE}{lo hi:Option Expr}{tl th:TO}{pos p2:Pos}
def xI:PO X none QV:=by
 show Ò;rw[evalPart_none];exact di ⟨none,H,I,.none,h⟩
def xJ(h:Ϣ te):PO X (some e) (QW te):=by
 intro pins s σ H Q I m;rw[evalPart_some];apply aN (h pins s σ H _ I m) λu S ⟨x,H1,j,F,z⟩=>?_;let(i,rfl,q):=z;let(t,rfl):=F;exact(some i,H1,j,.int i t,q)
def QX(X:Cx)(r:V->Option Int->Option Int->Hp->VK->Prop):Prop:=
 ∀(pins:bJ)(s:Sh)(σ:St)(H:Hp)(x:V)(v j m:Value)(lo hi:Option Int)(sl:Addr)(Q:VK),Ã H s->RelV x v->s.heap.IsSliceOf sl j m .none->IsPart j lo->IsPart m hi->r x lo hi H Q->
  ∃T id,typeLookup (.type T) "__getitem__"=pure (some ϒ)/\s.TypeIs v T/\wpAny È X.A (getItem v (.ref sl)) (ò Q) X.xe s
def QY(r:V->Option Int->Option Int->Hp->VK->Prop)(te:TE)(tl th:TO):TE:=λσ H Q=>te σ H λx H1=>tl σ H1 λl j=>th σ j λu m=>r x l u m Q
def xK(hr:QX X r)(W:Ϣ te)(Z:PO X lo tl)(hu:PO X hi th):PE X (.Subscript e (.Slice lo hi none p2) pos) (QY r te tl th):=by
 show Ò;apply Subscript_ (aN (W pins s σ H _ I h) λv s1 ⟨x,H1,G,r1,q1⟩=>?_);apply wpAny_Slice (aN (Z pins s1 σ H1 _ G q1) λj s2 ⟨l,F,J,pl,q2⟩=>aN (hu pins s2 σ F _ J q2) λm S ⟨u,z,M,pu,q3⟩=>?_);rw[evalPart_none];apply di ?_;let O:Ã z {S with heap:=S.heap.push {cls:=.type "slice",data:=.fields #[j,m,.none]}}:=M.kept (t':=S.toks) λb ob q=>dq _ q;let(T,id,U,ht,Y):=hr pins {S with heap:=S.heap.push {cls:=.type "slice",data:=.fields #[j,m,.none]}} σ z x v j m l u S.heap.objs.size Q O r1 (Heap.IsSliceOf.new ..) pl pu q3;show wpAny È X.A (subscriptTail e (.Slice lo hi none p2) v (.ref S.heap.objs.size)) (ò Q) X.xe {S with heap:=S.heap.push {cls:=.type "slice",data:=.fields #[j,m,.none]}};exact tail_any (ops:=[.ref S.heap.objs.size,v]) ht U Y Ô
def oS(xs:au)(lo hi:Option Int):au:=(xs.drop (HT.mw xs.length 0 lo)).take (HT.mw xs.length xs.length hi-HT.mw xs.length 0 lo)
def abh(xs:au)(lo hi:Option Int):(oS xs lo hi).length<=xs.length:=by
 delta oS;rw[nr,YT];omega
inductive QZ(K:FR)(x:V)(y:V)(H:Hp)(Q:VK):Prop
 |mk (a b ns ms:_) (_:x=.ref a) (_:y=.ref b) (_:ũ a Ŧ) (_:ũ b (ms.map V.int)) (_:Q (.bl ϡ) H)
def abi(F:X.A.units<cLine):eW X Çu (QZ X.K):=by
 show ð;let(a,b,ns,ms,rfl,rfl,m,z,q):=h;cases rx;cases ry;let(j,S,O,_):=I.tuple m;let(M,U,p2,_):=I.tuple z;let G:IntsAre j.toArray.toList ns:=intsAre_of S;let J:IntsAre M.toArray.toList ms:=intsAre_of U;exact HT.abg O p2 G J F ⟨.bl ϡ,H,I,Á,q⟩
end
def sN(n:Nat)(i:Int):Option Nat:=if 0<=i then (if i<n then some i.toNat else none) else if-(n:Int)<=i then some (i+n).toNat else none
def p9{α:Type}(xs:List α)(i:Int):Option α:=(sN xs.length i).bind λj=>xs[j]?
def abj(h:sN n i=some j):seqIndex? i n=some j/\j<n/\ -(n:Int)<=i/\i<n:=by
 delta sN at h;by_cases z:0<=i
 .rw[af z] at h;by_cases m:i<n
  .rw[af m] at h;let e:i.toNat=j:=aI h;exact(by rw[seqIndex_of z m,e],by omega,by omega,m)
  .symm
 .rw[ah z] at h;by_cases m: -(n:Int)<=i
  .rw[af m] at h;let e:(i+n).toNat=j:=aI h;exact(by rw[seqIndex_neg Å m,e],by omega,m,by omega)
  .symm
theorem Q0(h:p9 xs i=some v):∃j,seqIndex? i xs.length=some j/\xs[j]? =some v/\j<xs.length/\ -(xs.length:Int)<=i/\i<xs.length:=by
 delta p9 at h;cases e:sN xs.length i with
 |none=>symm
 |some j=>
  rw[e] at h;let(m,h2,z,F):=abj e;symm
def fU{α:Type}{xs:List α}{j:Nat}{v:α}(h:xs[j]? =some v):p9 xs (j:Int)=some v:=by
 let m:j<xs.length:=(bH.mp h).1;let e:sN xs.length (j:Int)=some j:=by
  delta sN;symm
 delta p9;rw[e];exact h
def vR(xs:List α)(v:α):p9 (xs++[v]) (-1)=some v:=by
 let j:(xs++[v]).length=xs.length+1:=by simp
 let e:sN (xs++[v]).length (-1)=some xs.length:=by
  delta sN;grind
 delta p9;symm
def abl(b:Expr):Prop:=∀o i,subscripted b false o i=operate [o,i] (getItem o i)
def IX(X:Cx)(r:R2):Prop:=
 ∀(J j:Expr)(pins:bJ)(s:Sh)(σ:St)(H:Hp)(x y:V)(v u:Value)(Q:VK),Ã H s->RelV x v->RelV y u->r x y H Q->
  subscripted j false v u=operate [v,u] (getItem v u)->wpAny È X.A (subscriptTail J j v u) (ò Q) X.xe s
def IY(X:Cx)(id:String)(r:V->au->Hp->VK->Prop):Prop:=
 ∀(pins:bJ)(s:Sh)(σ:St)(H:Hp)(x:V)(xs:au)(v:Value)(U:LV)(Q:VK),Ã H s->RelV x v->bh xs U->r x xs H Q->
  wpAny È X.A (call ϒ (v::U)) (ò Q) X.xe s
section
variable{X:Cx}{a b:Expr}{ta tb:TE}{pos:Pos}
def cA(hr:IX X r)(z:ϣ ta)(F:PE X b tb)(hs:abl b):PE X (.Subscript a b pos) Çc:=by
 show Ò;exact Subscript_ (IJ z F I h λv u S x y j m G J q=>hr a b pins S σ j x y v u Q m G J q (hs _ _))
inductive ig(K:FR)(x:V)(y:V)(H:Hp)(Q:VK):Prop
 |mk (p xs i v:_) (_:x=.ref p) (_:y=.int i) (_:ä p xs) (_:p9 xs i=some v) (_:Q v H)
inductive abm(K:FR)(x:V)(y:V)(H:Hp)(Q:VK):Prop
 |mk (p xs i v:_) (_:x=.ref p) (_:y=.int i) (_:ũ p xs) (_:p9 xs i=some v) (_:Q v H)
def cZ:IX X (ig X.K):=by
 intro jl vw pins s σ H x y v u Q I Z ry h hs;let(p,xs,i,z,rfl,rfl,W,U,q):=h;cases Z;let(t,rfl):=ry;let(J,r,pl,hz):=I.list W;let(j,F,h2,h3,O,S):=Q0 U;let(w,M,Y):=r.get h2;let hl:=r.length;let hn:=El;let fin:ò Q w s:=⟨z,H,I,Y,q⟩;by_cases m:0<=i
 .let G:i.toNat=j:=by
   rw[seqIndex_of m S] at F;symm
  exact item_listR pl.isList m Å É fin hs
 .let G:(i+(J.toArray.size:Int)).toNat=j:=by
   rw[seqIndex_neg Å O] at F;symm
  exact subscriptTail_builtinR (x:=w) pl.isList.typeIs slot_list_getitem.lookup
   (wpAny_getItem_list_neg (Q:=λr s'=>r=w/\ò Q r s') pl.isList Å (by rw[uw] <;> omega) Å (by rw[G];simpa using M) ⟨rfl,fin⟩) hs
def zi:IX X (abm X.K):=by
 intro jl vw pins s σ H x y v u Q I S U h hs;let(p,xs,i,z,rfl,rfl,M,G,q):=h;cases S;let(t,rfl):=U;let(W,r,pl,hz):=I.tuple M;let(j,F,h2,Y,Z,h5):=Q0 G;let(w,m,O):=r.get h2;let J:=r.length;let hn:=El;let fin:ò Q w s:=⟨z,H,I,O,q⟩;exact subscriptTail_builtinR (x:=w) pl.typeIs slot_tuple_getitem.lookup
  (getItem_tuple (j:=j) (Q:=λr s'=>r=w/\ò Q r s') pl Å Å (by rw[uw,<-J];exact F) (À m) ⟨rfl,fin⟩) hs
def abn(lo hi:Option Int)(n:Nat):(sliceBounds lo hi none n).1=((HT.mw n 0 lo:Nat):Int)/\(sliceBounds lo hi none n).2.1=((HT.mw n n hi:Nat):Int)/\(sliceBounds lo hi none n).2.2=1:=by
 apply(?_,?_,Á)
 .cases lo with
  |none=>rfl
  |some i=>
   simp only[sliceBounds,HT.mw,Option.getD_none,show(1:Int)>0 by decide,Py];grind
 .cases hi with
  |none=>rfl
  |some i=>
   simp only[sliceBounds,HT.mw,Option.getD_none,show(1:Int)>0 by decide,Py];grind
def abo(j:LV)(lo hi:Option Int):slicePick j.toArray lo hi none=((j.drop (HT.mw j.length 0 lo)).take (HT.mw j.length j.length hi-HT.mw j.length 0 lo)).toArray:=by
 let(m,h2,z):=abn lo hi j.toArray.size;delta slicePick;rw[m,h2,z];simp only[sliceRange_one,pick_run,uw] <;> rfl
inductive Q1(K:FR)(x:V)(lo:Option Int)(hi:Option Int)(H:Hp)(Q:VK):Prop
 |mk (a xs:_) (_:x=.ref a) (_:ä a xs) (_:∀p,H p=none->Q ĥ (upd H p (.lst (oS xs lo hi))))
def xM:QX X (Q1 X.K):=by
 intro pins s σ H x v S U lo hi sl Q I J hs pl G h;let(a,xs,rfl,z,q):=h;cases J;let(M,r,j,F):=I.list z;let m:=r.length;apply⟨"list",_,slot_list_getitem.lookup,j.isList.typeIs,?_⟩;apply wpAny_getItem_list_slice j.isList hs pl G .none Ä ?_ É;rw[abo,<-m];apply(.ref s.heap.objs.size,_,I.laid (t':=s.toks) (o:=.lst (oS xs lo hi)) (λb O q=>dq _ q) (bU _) ?_,Á,q _ ī);exact(ia (abh xs lo hi) F,_,0,(r.drop (HT.mw xs.length 0 lo)).take (HT.mw xs.length xs.length hi-HT.mw xs.length 0 lo),iq _ Á)
def lW:V->Bool
 |.aL=>true
 |.bl _=>true
 |.int _=>true
 |.str _=>true
 |_=>false
def qd:V->V->Bool
 |.aL,.aL=>true
 |.bl a,.bl b=>a==b
 |.bl a,.int b=>(if a then 1 else 0)==b
 |.int a,.bl b=>a==(if b then 1 else 0)
 |.int a,.int b=>a==b
 |.str a,.str b=>a==b
 |_,_=>false
theorem abp(m:RelV y u)(j:RelV x v)(z:lW y=true)(F:lW x=true):SeqAt.EqAt A s u v (qd y x):=by
 cases y with
 |aL=>
  cases m;cases x with
  |aL=>cases j;exact SeqAt.EqAt.same _
  |bl b=>cases j;exact SeqAt.EqAt.none_bool b
  |int b=>let(t,rfl):=j;exact SeqAt.EqAt.none_int b t
  |str b=>let(t,rfl):=j;exact SeqAt.EqAt.none_str b t
  |_=>exact absurd (show false=true from F) eC
 |bl a=>
  cases m;cases x with
  |aL=>cases j;exact SeqAt.EqAt.bool_none a
  |bl b=>cases j;exact SeqAt.EqAt.bool_bool a b
  |int b=>let(t,rfl):=j;exact SeqAt.EqAt.bool_int a b t
  |str b=>let(t,rfl):=j;exact SeqAt.EqAt.bool_str a b t
  |_=>exact absurd (show false=true from F) eC
 |int a=>
  let(t',rfl):=m;cases x with
  |aL=>cases j;exact SeqAt.EqAt.int_none a t'
  |bl b=>cases j;exact SeqAt.EqAt.int_bool a t' b
  |int b=>let(t,rfl):=j;exact SeqAt.EqAt.int_int a t' b t
  |str b=>let(t,rfl):=j;exact SeqAt.EqAt.int_str a t' b t
  |_=>exact absurd (show false=true from F) eC
 |str a=>
  let(t',rfl):=m;cases x with
  |aL=>cases j;exact SeqAt.EqAt.str_none a t'
  |bl b=>cases j;exact SeqAt.EqAt.str_bool a t' b
  |int b=>let(t,rfl):=j;exact SeqAt.EqAt.str_int a t' b t
  |str b=>let(t,rfl):=j;exact SeqAt.EqAt.str_str a t' b t
  |_=>exact absurd (show false=true from F) eC
 |_=>exact absurd (show false=true from z) eC
def lX(x:V)(u:Value):Bool:=match u with
 |.none=>qd .aL x
 |.bool b=>qd (.bl b) x
 |.int i _=>qd Ãe x
 |.str z _=>qd (.str z) x
 |_=>false
theorem En{x y:V}{u:Value}(r:RelV y u)(f:lW y=true):lX x u=qd y x:=by
 cases y with
 |aL=>cases r;rfl
 |bl b=>cases r;rfl
 |int i=>let(t,rfl):=r;rfl
 |str z=>let(t,rfl):=r;rfl
 |_=>exact absurd (show false=true from f) eC
theorem Eo{x:V}:∀{xs:au}{U:LV},bh xs U->xs.all lW=true->U.any Æs=xs.any λy=>qd y x:=by
 intro xs U h;induction h with
 |nil=>exact λ_=>Á
 |cons r t I=>
  intro f;rw[so,iU] at f;rw[ux,ux,En r f.1,I f.2]
theorem Bs{A:Around}{s:Sh}{x:V}{v:Value}(m:RelV x v)(F:lW x=true):∀{xs:au}{U:LV},bh xs U->xs.all lW=true->∀u∈U,SeqAt.EqAt A s u v (lX x u):=by
 intro xs U h;induction h with
 |nil=>intro _ u j;cases j
 |cons r t I=>
  intro f z j;rw[so,iU] at f;rcases a0.mp j with rfl|j
  .rw[En r f.1];exact abp r m f.1 F
  .exact I f.2 z j
def vS(x:V)(xs:au):Bool:=xs.any λy=>qd y x
inductive Ep(K:FR)(neg:Bool)(x:V)(y:V)(H:Hp)(Q:VK):Prop
 |mk (p xs:_) (_:y=.ref p) (_:(ä p xs\/bw K H p xs)) (_:lW x=true) (_:xs.all lW=true) (_:Q (.bl (if neg then !vS x xs else vS x xs)) H)
def IZ:eW X (compareOp .In) (Ep X.K false):=by
 show ð;let(p,xs,rfl,m,fx,fs,q):=h;cases ry;rcases m with m|m
 .let(j,r,pl,z):=I.list m;apply SeqAt.in_listAt Æs pl.isList Ŭ ⟨.bl _,H,I,Á,?_⟩;rw[show j.toArray.any Æs=j.any Æs by simp,Eo r fs];exact q
 .let(j,r,pl,z):=I.tuple m;apply SeqAt.in_tupleAt Æs pl Ŭ ⟨.bl _,H,I,Á,?_⟩;rw[show j.toArray.any Æs=j.any Æs by simp,Eo r fs];exact q
def abq:eW X (compareOp .NotIn) (Ep X.K true):=by
 show ð;let(p,xs,rfl,m,fx,fs,q):=h;cases ry;rcases m with m|m
 .let(j,r,pl,z):=I.list m;apply SeqAt.notIn_listAt Æs pl.isList Ŭ ⟨.bl _,H,I,Á,?_⟩;rw[show j.toArray.any Æs=j.any Æs by simp,Eo r fs];exact q
 .let(j,r,pl,z):=I.tuple m;apply SeqAt.notIn_tupleAt Æs pl Ŭ ⟨.bl _,H,I,Á,?_⟩;rw[show j.toArray.any Æs=j.any Æs by simp,Eo r fs];exact q
def gc:lS X (.builtin "len") (λxs H Q=>∃p ys,xs=[.ref p]/\(Àz p ys\/bw X.K H p ys)/\Q (.int ys.length) H):=by
 intro pins s σ H xs U Q I r h;let(p,ys,rfl,j,q):=h;let(u,rfl,J):=vals1 r;cases J;let M:=El;rcases j with j|j
 .let(z,m,pl,G):=I.list j;let F:=m.length;exact Calls.call_len_list pl.isList (by grind) ⟨.int ys.length,H,I.tok _,⟨s.toks+1,by simp_all⟩,q⟩
 .let(z,m,pl,G):=I.tuple j;let F:=m.length;exact len_tuple pl (by grind) ⟨.int ys.length,H,I.tok _,⟨s.toks+1,by simp_all⟩,q⟩
def abr:lS X (.type "list") (λxs H Q=>∃p ys,xs=[.ref p]/\(Àz p ys\/bw X.K H p ys)/\∀l,H l=none->Q Åi (ϟ Ân)):=by
 intro pins s σ H xs U Q I r h;let(p,ys,rfl,F,q):=h;let(u,rfl,S):=vals1 r;cases S;let fin:∀(j:LV),bh ys j->ys.length<=sizeLine->∀(h':Heap)(m:Nat),(∀b O,s.heap.get? b=some O->h'.get? b=some O)->
   h'.get? s.heap.objs.size=some {cls:=.type "list",dict:=none,data:=.seq j.toArray m,slots:= #[]}->ò Q Ĺ {s with heap:=h'}:=λj z G h' m kp e=>
  ⟨.ref s.heap.objs.size,_,I.laid (t':=s.toks) kp (bU _) (show fJ X.prog X.w _ h' _ Ân from⟨G,j,m,z,e⟩),rfl,q _ ī⟩
 rcases F with F|F
 .let(j,z,pl,G):=I.list F;let M:=z.length;let(o,J,hc,n,hd):=pl.isList;exact call_list_seq p ę J hc hd (λh' m kp e=>fin j z G h' m kp e) É
 .let(j,z,pl,G):=I.tuple F;let M:=z.length;let(o,J,hc,n,hd):=pl;exact call_list_seq p Èz J hc hd (λh' m kp e=>fin j z G h' m kp e) É
def Q2:lS X (.type "tuple") (λxs H Q=>∃p ys,xs=[.ref p]/\((Àz p ys/\∀l,H l=none->Q Åi (ϟ Æg))\/(bw X.K H p ys/\Q ĥ H))):=by
 intro pins s σ H xs U Q I r h;let(p,ys,rfl,h):=h;let(u,rfl,J):=vals1 r;cases J;rcases h with ⟨m,q⟩|⟨m,q⟩
 .let(j,z,pl,F):=I.list m;let M:=z.length;apply call_tuple_list pl.isList (λh' kp=>?_) É;let I1:Ã H {s with heap:=h'}:=I.kept (t':=s.toks) kp;let G:Ã (upd H h'.objs.size Æg) {s with heap:=h'.push {cls:=.type "tuple",data:=.seq j.toArray}}:=
   I1.laid (t':=s.toks) Åu (bU _) (show fJ X.prog X.w _ _ _ Æg from⟨F,j,z,IsTup.new _ _⟩)
  exact(.ref h'.objs.size,_,G,Á,q _ Ãz)
 .let(j,z,pl,F):=I.tuple m;exact call_tuple_same pl ⟨.ref p,H,I,Á,q⟩
def Ja(K:FR)(T:String)(x:V)(H:Hp):Prop:=match x with
 |.str _=>T="str"
 |.int _=>T="int"
 |.ref p=>(T="list"/\∃xs,ä p xs)\/(T="tuple"/\∃o,K.lookup p=some o/\o.cls=.type "tuple"/\o.dict=none)\/
   (T="dict"/\((∃kvs,H p=some ē)\/∃kvs,H p=some Ãj))\/(T="set"/\∃S n,H p=some (.set S n))
 |_=>False
def Q3(I:Ã H s)(r:RelV x v)(j:Ja X.K T x H):
  s.TypeIs v T/\∀a,v=.ref a->∃O,s.heap.get? a=some O/\O.dict=none:=by
 cases x with
 |str z=>
  let(t,rfl):=r;cases (show T="str" from j);exact(typeIs_str s z t,λ_ e=>nomatch e)
 |int i=>
  let(t,rfl):=r;cases (show T="int" from j);exact(typeIs_int s i t,λ_ e=>nomatch e)
 |ref p=>
  cases r;rcases j with ⟨rfl,xs,F⟩|⟨rfl,o,hk,hc,hd⟩|⟨rfl,hk⟩|⟨rfl,S,n,hk⟩
  .let(G,_,pl,_):=I.list F;apply(pl.isList.typeIs,λa e=>?_);cases e;let(o,n,e,c,hd,_):=pl;symm
  .apply(⟨o,I.fO p o hk,hc⟩,λa e=>?_);cases e;exact(o,I.fO _ o hk,hd)
  .let z:∃o,s.heap.get? p=some o/\o.ExactDict:=by
    rcases hk with ⟨kvs,hk⟩|⟨kvs,hk⟩
    .let(_,_,_,_,o,_,_,e,ex,_):=I.ax p _ hk;symm
    .let(_,_,_,_,o,_,_,e,ex,_):=I.ax p _ hk;symm
   let(o,e,ex):=z;apply(⟨o,e,ex.1⟩,λa m=>?_);cases m;exact(o,e,ex.2.1)
  .let(o,_,_,_,e,ex,_):=I.ax p _ hk;apply(⟨o,e,ex.1⟩,λa m=>?_);cases m;exact(o,e,ex.2.1)
 |_=>exact False.elim j
def abt(K:FR)(T:String)(r:V->au->Hp->VK->Prop)(to:TE):TE:=λσ H Q=>to σ H λx H1=>Ja K T x H1/\r x [] H1 Q
def Q4(K:FR)(T:String)(r:V->au->Hp->VK->Prop)(to:TE)(t:TA):TE:=λσ H Q=>to σ H λx H1=>Ja K T x H1/\t σ H1 λxs j=>r x xs j Q
variable{o e:Expr}{es:List Expr}{to:TE}{t:TA}{name:Str}{i5 gf:Pos}{T id:String}{r:V->au->Hp->VK->Prop}
def Q5(J:PlainAttrs T)(slot:Slot T name id)(O:typeOf ϒ=pure (.type "method_descriptor"))(F:IY X id r)(G:PE X o to)(W:attributeBase o name X.env Ät=eval o X.env:=by rfl) (Y:(i5.endLine==gf.line)=true:=by rfl):PE X (.Call (.Attribute o name i5) [] [] gf) (abt X.K T r to):=by
 show Ò;apply wpAny_Call_method0_late W Y (aN (G pins s σ H _ I h) λv S ⟨x,H1,j,m,U,M⟩=>?_);let(z,h2):=Q3 j m U;exact(T,id,J,slot,O,z,h2,HM Á (PySem.evalArgs_none (F pins S σ H1 x [] v [] Q j m .nil M)))
def qe(W:PlainAttrs T)(slot:Slot T name id)(sO:typeOf ϒ=pure (.type "method_descriptor"))(S:IY X id r)(U:PE X o to)(O:PA X (e::es) t)(uA:attributeBase o name X.env Ät=eval o X.env:=by rfl)(zj:((backTo gf (starEach (e::es) X.env)).all (λx=>!x.1)&&(backToKw gf ϶).all (λx=>x.1.isSome)
   &&decide ((e::es).length+([]:List Keyword).length+(if ([]:List Keyword).isEmpty then 0 else 1)<30))=true:=by rfl)
  (xN:(i5.endLine==gf.line)=true:=by rfl) (hs:starEach (e::es) X.env=(false,eval e X.env)::starEach es X.env:=by rfl) (J:(backTo gf õ).any (·.1)=false:=by rfl):
  PE X (.Call (.Attribute o name i5) (e::es) [] gf) (Q4 X.K T r to t):=by
 show Ò;apply wpAny_Call_method_late uA zj xN Á (aN (U pins s σ H _ I h) λv s1 ⟨x,H1,j,z,ty,Y⟩=>?_);let(M,h2):=Q3 j z ty;apply(T,id,W,slot,sO,M,h2,?_);let m:=O gf pins s1 σ H1 _ j Y;rw[hs] at m⊢;apply HM (by assumption) (Pz ?_);exact aN m λus s2 ⟨vs,F,G,r2,Z⟩=>S pins s2 σ F x vs v us Q G z r2 Z
end
def Jb(X:Cx)(id:String)(r:V->au->Hp->VK->Prop):Prop:=
 ∀(pins:bJ)(s:Sh)(σ:St)(H:Hp)(x:V)(xs:au)(v:Value)(U:LV)(Q:VK),Ã H s->RelV x v->bh xs U->r x xs H Q->
  wpAny È X.A (call ϒ (v::U)) (ò Q) X.xe s
theorem bh.one:∀{x:V}{U:LV},bh [x] U->∃u,U=[u]/\RelV x u:=by
 intro x U h;cases h with
 |cons r t=>cases t;exact(_,Á,r)
def bh.zero:∀{U:LV},bh [] U->U=[]:=by
 intro U h;cases h;rfl
theorem bh.dropLast(h:bh xs us):bh xs.dropLast us.dropLast:=by
 induction h with
 |nil=>exact .nil
 |cons r t I=>
  cases t with
  |nil=>exact .nil
  |cons q t'=>exact .cons r I
def abu(l:List α):l.eraseIdx (l.length-1)=l.dropLast:=by
 simp
section
variable{X:Cx}{pins:bJ}{σ:St}{H:Hp}{s:Sh}{l b:Addr}{xs ys zs:au}
def Inv.Jc{j its':LV}{n:Nat}{f:Array Value->Array Value}{t':Nat}(I:Ã H s)(m:H l=some Àj)(e:s.heap.get? l=some {cls:=.type "list",data:=.seq j.toArray n}) (F:f j.toArray=its'.toArray) (J:bh ys its') (M:ys.length<=sizeLine):
  Inv X pins σ (ϟ Ân) {s with heap:=s.heap.update l (Obj.mapSeq f),toks:=t'}:=by
 let q:=PySem.IsL.update e f;rw[F] at q;apply I.write (x:=l) (e:=l) (by rw[m];exact trivial) ę (λO u z G=>(AS s.heap (Obj.mapSeq f) (d8 z)).trans G) ⟨_,q⟩ ?_;exact(M,its',_,J,q)
def Inv.abv{j:LV}{t':Nat}(I:Ã H s)(m:bh ys j)(z:ys.length<=sizeLine):
  Inv X pins σ (ğ Ân) {s with heap:=s.heap.push {cls:=.type "list",data:=.seq j.toArray},toks:=t'}:=
 I.laid (λ_ _ q=>dq _ q) (bU _) ⟨z,j,0,m,iq _ rfl⟩
def Inv.fresh(I:Ã H s):H s.heap.objs.size=none:=I.ax.fresh (bU _)
def Inv.zk(I:Ã H s)(m:H l=some Àj):xs.length<=sizeLine/\∃(j:LV)(n:Nat),bh xs j/\xs.length=j.length/\s.heap.get? l=some {cls:=.type "list",data:=.seq j.toArray n}:=by
 let(z,j,n,r,e):=I.ax l _ m;exact(z,j,n,r,r.length,e)
def abw{n:Nat}(h:n<=sizeLine):Builtin.List.listTooLong n=false:=by
 delta Builtin.List.listTooLong;symm
end
section
inductive abx(x:V)(vs:au)(H:Hp)(Q:VK):Prop
 |mk (l xs y:_) (_:x=.ref l) (_:vs=[y]) (_:H l=some Àj) (_:xs.length<sizeLine) (_:Q .aL (ϟ (.lst (xs++[y]))))
def xO:Jb X "list.append" abx:=by
 intro pins s σ H x vs v U Q I M J h;let(l,xs,y,rfl,rfl,m,S,q):=h;cases M;let(u,rfl,G):=J.one;let(z,j,n,r,O,e):=I.zk m;apply HN F.slot_list_append ⟨_,e,Á⟩ F.entry_list_append (F.args_list_append_2 _ _) (PySem.list_append l j.toArray n u É) ⟨e,?_⟩;apply(.aL,_,I.Jc (its':=j++[u]) m e Ä (r.append (.cons G .nil)) ?_,Á,q);grind
inductive aby(x:V)(vs:au)(H:Hp)(Q:VK):Prop
 |mk (l b xs zs:_) (_:x=.ref l) (_:vs=[.ref b]) (_:H l=some Àj) (_:H b=some (.lst zs)) (_:xs.length+zs.length<=sizeLine) (_:Q .aL (ϟ (.lst (xs++zs))))
def Jd:Jb X "list.extend" aby:=by
 intro pins s σ H x vs v us Q I Z Y h;let(l,b,xs,zs,rfl,rfl,J,O,hz,q):=h;cases Z;let(u,rfl,W):=Y.one;cases W;let(z,j,n,r,hl,e):=I.zk J;let(z2,m,S,U,jq,M):=I.zk O;let hsz:j.toArray.size+m.toArray.size<=sizeLine:=by rw[uw,uw];omega
 let G:¬(!j.toArray.isEmpty&&Builtin.List.listTooLong (j.toArray.size+m.toArray.size))=true:=by
  rw[abw hsz,yQ];simp
 refine HN F.slot_list_extend ⟨_,e,Á⟩ F.entry_list_extend (F.args_list_extend_2 _ _)
  (AutoSeq1.list_extend_list_list_0 l j.toArray n b m.toArray S G (by rw[uw];omega) Å) ⟨e,M,?_⟩
 apply(.aL,_,I.Jc (its':=j++m) J e Ä (r.append U) ?_,Á,q);symm
inductive abA(x:V)(vs:au)(H:Hp)(Q:VK):Prop
 |mk (l xs y:_) (_:x=.ref l) (_:vs=[]) (_:H l=some Àj) (_:xs[xs.length-1]? =some y) (_:Q y (ϟ (.lst xs.dropLast)))
def Q6:Jb X "list.pop" abA:=by
 intro pins s σ H x vs v Z Q I Y W h;let(l,xs,y,rfl,rfl,G,S,q):=h;cases Y;let m:=W.zero;subst m;let(z,j,n,r,M,e):=I.zk G;let(u,O,U):=r.get S;let J:j.toArray[j.toArray.size-1]? =some u:=by
  show j.toArray[j.length-1]? =some u;rw[<-YU,<-M];exact O
 apply HN F.slot_list_pop ⟨_,e,Á⟩ F.entry_list_pop (F.args_list_pop_1 _) (MeetsSeq.list_pop_last l j.toArray n u J (by rw[uw];omega)) ⟨e,?_⟩;apply(y,_,I.Jc (its':=j.dropLast) G e ?_ r.dropLast ?_,U,q)
 .show j.toArray.eraseIdxIfInBounds (j.toArray.size-1)=j.dropLast.toArray;rw[uw,List.eraseIdxIfInBounds_toArray,abu]
 .rw[YV];omega
inductive Q7(x:V)(y:V)(H:Hp)(Q:VK):Prop
 |mk (l b xs zs:_) (_:x=.ref l) (_:y=.ref b) (_:H l=some Àj) (_:H b=some (.lst zs)) (_:xs.length+zs.length<=sizeLine) (_:∀p,H p=none->Q ĥ (upd H p (.lst (xs++zs))))
def Q8:eW X (binaryOp .Add) Q7:=by
 show ð;let(l,b,xs,zs,rfl,rfl,M,J,U,q):=h;cases rx;cases ry;let(z,j,n,r,S,e):=I.zk M;let(Z,m,Y,O,W,F):=I.zk J;apply PySem.P.add_list e F ?_ É;let G:j.toArray++m.toArray=(j++m).toArray:=by simp
 rw[G];exact(.ref _,_,I.abv (t':=s.toks) (r.append O) É,Á,q _ I.fresh)
end
theorem bh.ints{ns:LI}:∀{U:LV},bh Ŧ U->IntsAre U ns:=by
 induction ns with
 |nil=>
  intro U h;rw[lK] at h;cases h;exact IntsAre.nil
 |cons n ns I=>
  intro U h;rw[aX] at h;cases h with
  |cons r t=>
   let(k,rfl):=r;exact IntsAre.cons n k (I t)
theorem bh.Q9{bs:List Bool}:∀{U:LV},bh (bs.map V.bl) U->U=bs.map Value.bool:=by
 induction bs with
 |nil=>
  intro U h;rw[lK] at h;cases h;rfl
 |cons b bs I=>
  intro U h;rw[aX] at h;cases h with
  |cons r t=>
   cases r;rw[I t,aX]
theorem bh.Er{a:Addr}{U:LV}(r:bh [V.ref a] U):U=[Value.ref a]:=by
 cases r with
 |cons r t=>
  cases t;cases r;rfl
section
def abC(z:A.handled=none)(j:s.heap.IsList l aj.toArray)(hi:IntsAre aj ns)(h:∀h' tk t',(∀b o,s.heap.get? b=some o->h'.get? b=some o)->Q (.int ns.sum t') {s with heap:=h',toks:=tk}):wpAny Ó A (call (.builtin "sum") [.ref l]) Q E s:=by
 let(xs,e):=hi.allInts.items;let m:numsOf (intItems xs).toList=ns:=by rw[<-e];exact hi.numsOf
 rw[nums_intItems] at m;rw[e] at j;apply PySem.sum_intListG z j λh' tk t' hk=>?_;let:=h h' tk t' hk;rw[preSum_eq,AY Ä,m];exact this
def abD(I:A.handled=none)(m:s.heap.IsList l aj.toArray)(hi:IntsAre aj ns)(F:0<ns.length)(h:∀h' tk M t',(∀b o,s.heap.get? b=some o->h'.get? b=some o)->M∈ns->(∀a,a∈ns->M<=a)->Q (.int M t') {s with heap:=h',toks:=tk}):wpAny Ó A (call (.builtin "min") [.ref l]) Q E s:=by
 let(xs,e):=hi.allInts.items;let z:numsOf (intItems xs).toList=ns:=by rw[<-e];exact hi.numsOf
 rw[nums_intItems] at z;subst z;rw[e] at m;let hsz:0<xs.size:=À F
 apply PySem.min_intList I m hsz λv h' tk O hk=>?_;let(t,rfl):=intItems_at O;let(S,h2):=argBest_lt (numAt xs) (xs.size-1);apply h h' tk _ t hk ?_ λa G=>?_
 .rw[numAt_eq];exact PySem.getD_mem (by rw[az,xm];omega)
 .let(j,J,rfl):=mem_getD G;rw[az,xm] at J;rw[<-numAt_eq];exact h2 j Å
end
section
inductive abE(K:FR)(vs:au)(H:Hp)(Q:VK):Prop
 |mk (a:Addr) (ns:LI) (_:vs=[V.ref a]) (_:ä a Ŧ) (_:Q (.int ns.sum) H)
def abF(K:FR):au->Hp->VK->Prop:=λvs H Q=>∃(a:Addr)(ns:LI),vs=[V.ref a]/\ä a Ŧ/\0<ns.length/\∀m,m∈ns->(∀y,y∈ns->m<=y)->Q (.int m) H
def Ra(hc:X.calm=true):lS X (.builtin "sum") (abE X.K):=by
 intro pins s σ H vs U Q I r h;let(a,ns,rfl,hs,q):=h;let(z,m,j,_):=I.list hs;rw[bh.Er r];exact abC Ċ j.isList m.ints λh' tk t' hk=>⟨.int _,H,I.kept hk,⟨_,Á⟩,q⟩
def Rb(hc:X.calm=true):lS X (.builtin "min") (abF X.K):=by
 intro pins s σ H vs U Q I r h;let(a,ns,rfl,hs,j,q):=h;let(J,G,F,_):=I.list hs;rw[bh.Er r];exact abD Ċ F.isList G.ints j λh' tk m t' hk z h2=>⟨.int _,H,I.kept hk,⟨_,Á⟩,q m z h2⟩
end
section
inductive Rc(K:FR)(x:V)(xs:au)(H:Hp)(Q:VK):Prop
 |mk (a:Addr) (ys:au) (y:V) (j:Nat) (z:V) (_:x=V.ref a) (_:xs=[y]) (_:ä a ys) (_:lW y=true) (_:ys.all lW=true) (_:ys[j]? =some z) (_:qd z y=true) (_:(∀(m:Nat)(z':V),m<j->ys[m]? =some z'->qd z' y=false)) (_:Q (.int (j:Nat)) H)
def Re{ys:au}(f:ys.all lW=true){j:Nat}{z:V}(h:ys[j]? =some z):lW z=true:=kU.mp f z (bI h)
def Rf:IY X "list.index" (Rc X.K):=by
 intro pins s σ H x xs v us Q I rx rxs h;let(a,ys,y,j,z,rfl,rfl,hs,fy,O,hz,hzj,Bu,q):=h;cases rx;cases rxs with
 |cons ry rt=>
  rename_i uy ut;cases rt;let(G,J,((cls,dd,data,sl),n,ho,hc,hdn,hd),cO):=I.list hs;simp only at hc hd;subst hc hd;let(u,hu,ru):=J.get hz;let(uN,U):=bH.mp hu;let Jf:=J.length;let hj:j<G.toArray.size:=À uN
  let Bv:=xl;refine HN PySem.F.slot_list_index ⟨_,ho,Á⟩ PySem.F.entry_list_index (PySem.F.args_list_index_2 _ _)
   (SeqAt.list_indexAt a G.toArray n dd sl uy (lX y) j hj Å ?_ ?_) ⟨ho,λu' hu'=>Bs ry fy J O u' (À hu'),?_⟩
  .let S:G.toArray[j]=u:=by simpa using U
   rw[S,En ru (Re O hz)];exact hzj
  .intro m hm Y;let rk:m<G.length:=by simpa using hm
   let Z:m<ys.length:=by omega
   let M:ys[m]? =some ys[m]:=cY Z;let(u2,Jg,Jh):=J.get M;let(_,W):=bH.mp Jg;let S:G.toArray[m]=u2:=À W
   rw[S,En Jh (Re O M)];exact Bu m _ Y M
  .exact(.int (j:Nat),H,I.tok _,⟨_,Á⟩,q)
end
def Rg{prog:Pg}{w:Wd}{A:Around}{E:VP}{s:Sh}{l:Addr}{items:Array Value}{Q:VP}(j:s.heap.IsList l items)(h:∀S:Sh,S={s with heap:=s.heap.push {cls:=.type "list_iterator",data:=.fields #[.ref l,.int 0 0]}}->
   (S.heap.IsListIter s.heap.objs.size l 0/\S.heap.IsList l items)->l≠s.heap.objs.size->Q Ĺ S):wpAny Ó A (pyIter Åi) Q E s:=by
 let m:l<s.heap.objs.size:=by let(_,e,_):=j;exact c9 e
 exact YL j (h _ Á ⟨⟨_,iq _ Á,Á,Á⟩,j.push _⟩ (ft m))
def Rh{prog:Pg}{w:Wd}{A:Around}{bs:List Bool}{j:LV}(e:j=bs.map Value.bool):
  TruthOf prog w A (λi v=>j.toArray[i]? =some v) Âs:=λi v s Q E J I=>by
 let z:j[i]? =some v:=À J
 rw[e,bz] at z;let(b,F,rfl):=yP.mp z;let G:bs.getD i false=b:=by rw[iC,F] <;> rfl
 let m:Q (bs.getD i false) s:=I;rw[G] at m;exact ur m
theorem any_range:∀bs:List Bool,(List.range bs.length).any Âs=bs.any id:=by
 intro bs;induction bs with
 |nil=>exact Á
 |cons b bs I=>
  rw[dc,DO,ux,PB,ux,<-I]
  all_goals rfl
theorem all_range:∀bs:List Bool,(List.range bs.length).all Âs=bs.all id:=by
 intro bs;induction bs with
 |nil=>exact Á
 |cons b bs I=>
  rw[dc,DO,so,sr,so,<-I]
  all_goals rfl
section
inductive abN(K:FR)(vs:au)(H:Hp)(Q:VK):Prop
 |mk (a:Addr) (bs:List Bool) (_:vs=[V.ref a]) (_:ä a (bs.map V.bl)) (_:Q (.bl (bs.any id)) H)
inductive abO(K:FR)(vs:au)(H:Hp)(Q:VK):Prop
 |mk (a:Addr) (bs:List Bool) (_:vs=[V.ref a]) (_:ä a (bs.map V.bl)) (_:Q (.bl (bs.all id)) H)
def Ri(hc:X.calm=true):lS X (.builtin "any") (abN X.K):=by
 intro pins s σ H vs W Q I r h;let(a,bs,rfl,hs,q):=h;let(F,S,O,_):=I.list hs;rw[bh.Er r];let m:=S.Q9;apply call_any_walk (Rg O.isList λU M st z=>?_);subst M;apply(_,_,_,_,_,_,_,Á,Walks.list (A:=X.A.in1) Ċ _ a z F.toArray,st,Rh m,λh' tk hk=>?_);apply(.bl _,H,I.kept λb o j=>hk b o (λJ=>?_) (dq _ j),?_,q)
 .rcases a0.mp J with G|J
  .exact absurd (G▸ c9 j) (qQ _)
  .symm
 .show Value.bool _=Value.bool _;rw[<-any_range,m,uw,az]
def vT(hc:X.calm=true):lS X (.builtin "all") (abO X.K):=by
 intro pins s σ H vs W Q I r h;let(a,bs,rfl,hs,q):=h;let(F,S,O,_):=I.list hs;rw[bh.Er r];let m:=S.Q9;apply call_all_walk (Rg O.isList λU M st z=>?_);subst M;apply(_,_,_,_,_,_,_,Á,Walks.list (A:=X.A.in1) Ċ _ a z F.toArray,st,Rh m,λh' tk hk=>?_);apply(.bl _,H,I.kept λb o j=>hk b o (λJ=>?_) (dq _ j),?_,q)
 .rcases a0.mp J with G|J
  .exact absurd (G▸ c9 j) (qQ _)
  .symm
 .show Value.bool _=Value.bool _;rw[<-all_range,m,uw,az]
end
mutual
inductive Dp(K:FR)(H:Hp):V->PyData->Prop
 |aL:Dp K H .aL .none
 |bl (b:Bool):Dp K H (.bl b) (.bool b)
 |int (i:Int):Dp K H Ãe Ãe
 |str (x:Str):Dp K H Çl Çl
 |lst {a:Addr} {xs:au} {ds:List PyData}:ä a xs->Áo xs ds->Dp K H Ğ (.list ds)
 |tup {a:Addr} {xs:au} {ds:List PyData}:ũ a xs->Áo xs ds->Dp K H Ğ (.tuple ds)
inductive jd(K:FR)(H:Hp):au->List PyData->Prop
 |nil:Áo [] []
 |cons {v:V} {vs:au} {d:PyData} {ds:List PyData}:Dp K H v d->Áo vs ds->Áo (v::vs) (d::ds)
end
section
variable{X:Cx}{pins:bJ}{σ:St}{H:Hp}{s:Sh}
def Dp.reads(I:Ã H s)(d:PyData)(v:V)(u:Value)(h:Dp X.K H v d):RelV v u->∃as,Reads s.heap u d as:=
 Dp.rec (motive_1:=λv d _=>∀u,RelV v u->∃as,Reads s.heap u d as) (motive_2:=λvs G _=>∀U,bh vs U->∃as,ReadsAll s.heap U G as)
  (λu r=>by cases r;exact(_,Reads.none)) (λb u r=>by cases r;exact(_,Reads.bool b)) (λi u r=>by let(t,rfl):=r;exact(_,Reads.int i t)) (λx u r=>by let(t,rfl):=r;exact(_,Reads.str x t))
  (λhs _ z u r=>by
   cases r;let(j,F,(o,n,m,hc,_,hd),_):=I.list hs;let(as,hr):=z j F;exact(_,Reads.list m hc hd hr))
  (λhs _ z u r=>by
   cases r;let(j,F,(o,m,hc,n,hd),_):=I.tuple hs;let(as,hr):=z j F;exact(_,Reads.tuple m hc hd hr))
  (λU r=>by cases r;exact(_,ReadsAll.nil))
  (λ_ _ J M U r=>by
   cases r with
   |cons W Y=>
    let(as,O):=J _ W;let(bs,S):=M _ Y;exact(_,ReadsAll.cons O S)) h u
end
section
def abP(K:FR):R2:=λx y H Q=>∃d e,Dp K H x d/\Dp K H y e/\SeqAt.shaped d=true/\SeqAt.shaped e=true/\Q (.bl (PyData.eqv d e)) H
def abQ(K:FR):R2:=λx y H Q=>∃d e,Dp K H x d/\Dp K H y e/\SeqAt.shaped d=true/\SeqAt.shaped e=true/\Q (.bl (!PyData.eqv d e)) H
def Rj(m:X.A.units+64<cLine):eW X Ám (abP X.K):=by
 show ð;let(d,e,hd,j,sd,S,q):=h;let(as,z):=Dp.reads I d x v hd rx;let(bs,F):=Dp.reads I e y u j ry;exact SeqAt.compareEq_shaped z F sd S m ⟨.bl _,H,I,Á,q⟩
def Ji(m:X.A.units+64<cLine):eW X Áv (abQ X.K):=by
 show ð;let(d,e,hd,j,sd,S,q):=h;let(as,z):=Dp.reads I d x v hd rx;let(bs,F):=Dp.reads I e y u j ry;exact SeqAt.compareNe_shaped z F sd S m ⟨.bl _,H,I,Á,q⟩
end
end L2
namespace L2
open PySem PySem.Spec PyProof.Rows
abbrev Rk(h:Heap)(c:Addr)(v:Option Value):Prop:=h.IsCell c v
def abR(scope S:Scope):Scope:=
 {scope with names:=scope.names.map λ(n,k)=>if (k== .free&&S.kind== .function&&S.names.lookup n==some .cell) then (n,.cell) else (n,k)}
def je(cells:e9):List (Str×NameKind)->e9->e9
 |[],acc=>acc
 |(n,k)::r,acc=>if k== .free then je cells r ((n,(cells.lookup n).getD 0)::acc) else je cells r acc
def abS(env:Env)(f:Str×NameKind->e9->Sem (ForInStep e9))(z:∀n k c,f (n,k) c=if k== .free then (do let a <-cellOf env n;pure (.yield ((n,a)::c))) else pure (.yield c)):
  ∀(names:List (Str×NameKind))(acc:e9),(∀y∈names,y.2=.free->∃c,env.cells.lookup y.1=some c)->forIn names acc f=pure (je env.cells names acc):=by
 intro names;induction names with
 |nil=>
  intro acc _;rw[List.forIn_nil];rfl
 |cons j r I=>
  let(n,k):=j;intro acc h;rw[List.forIn_cons,z];let I:=λacc=>I acc λy F=>h y (aP _ F);delta je;by_cases hk:(k==NameKind.free)=true
  .rw[af hk,af hk];let(c,hc):=h (n,k) fG (À hk);let e:cellOf env n=pure c:=by delta cellOf;rw[hc]
   rw[e];let m:(env.cells.lookup n).getD 0=c:=by rw[hc];rfl
   rw[m];exact I _
  .rw[ah hk,ah hk];exact I _
def abT(h:∀y∈scope.names,y.2=.free->∃c,env.cells.lookup y.1=some c):closureFor scope env=pure (je env.cells scope.names []):=by
 simp only[closureFor];rw[abS env _ (λn k c=>rfl) scope.names [] h];rfl
theorem mem_lookup{α:Type}{l:List (Str×α)}:∀{n:Str}{c:α},(n,c)∈l->∃j,l.lookup n=some j:=by
 induction l with
 |nil=>intro n c h;cases h
 |cons p r I=>
  intro n c h;let(k,v):=p;rw[vC];cases hb:n==k with
  |true=>exact(_,Á)
  |false=>
   rcases a0.mp h with e|h
   .cases e;simp at hb
   .exact I h
theorem Rl{cells:e9}{names:List (Str×NameKind)}:∀{acc:e9}{n:Str}{c:Addr},(n,c)∈je cells names acc->(n,c)∈acc\/((n,.free)∈names/\c=(cells.lookup n).getD 0):=by
 induction names with
 |nil=>exact @λ_ _ _ h=>.inl h
 |cons z r I=>
  let(m,k):=z;intro acc n c h;delta je at h;split at h
  .rename_i hk;let hk:k=.free:=by simpa using hk
   rcases I h with h|⟨j,h2⟩
   .rcases a0.mp h with e|h
    .cases e;exact .inr ⟨hk▸ fG,Á⟩
    .exact .inl h
   .exact .inr ⟨aP _ j,h2⟩
  .rcases I h with h|⟨j,h2⟩
   .exact .inl h
   .exact .inr ⟨aP _ j,h2⟩
theorem abU{cells:e9}{names:List (Str×NameKind)}:∀{acc:e9}{p:Str×Addr},p∈acc->p∈je cells names acc:=by
 induction names with
 |nil=>exact @λ_ _ h=>h
 |cons j r I=>
  let(m,k):=j;intro acc p h;delta je;split
  .exact I (aP _ h)
  .exact I h
theorem abV{cells:e9}{names:List (Str×NameKind)}:∀{acc:e9}{n:Str},(n,.free)∈names->(n,(cells.lookup n).getD 0)∈je cells names acc:=by
 induction names with
 |nil=>intro acc n h;cases h
 |cons p r I=>
  intro acc n h;delta je;rcases a0.mp h with e|h
  .cases e;exact abU fG
  .split
   .exact I h
   .exact I h
def Jj{names:List (Str×NameKind)}:∀{h:Heap}{acc:e9}{x:Str}{c:Addr},(x,c)∈cellsFrom h.objs.size names acc->
  (x,c)∈acc\/((x,.cell)∈names/\h.objs.size<=c/\Rk (pushCells h names) c none):=by
 induction names with
 |nil=>exact @λ_ _ _ _ h=>.inl h
 |cons F r I=>
  let(n,k):=F;intro h acc x c j;delta cellsFrom at j;delta pushCells;split at j
  .rename_i hk;rw[af hk];let hk:k=.cell:=by simpa using hk
   rw[<-qP h {cls:=.type "cell",data:=.cell none}] at j;rcases I j with j|⟨m,h2,z⟩
   .rcases a0.mp j with e|j
    .cases e;exact .inr ⟨hk▸ fG,bU _,_,PD r _ _ _ (iq _ Á),Á⟩
    .exact .inl j
   .rw[qP] at h2;exact .inr ⟨aP _ m,PF h2,z⟩
  .rename_i hk;rw[ah hk];rcases I j with j|⟨m,h2,z⟩
   .exact .inl j
   .exact .inr ⟨aP _ m,h2,z⟩
theorem Rm{names:List (Str×NameKind)}:∀{n:Nat}{acc:e9}{p:Str×Addr},p∈acc->p∈cellsFrom n names acc:=by
 induction names with
 |nil=>exact @λ_ _ _ h=>h
 |cons j r I=>
  let(m,k):=j;intro n acc p h;delta cellsFrom;split
  .exact I (aP _ h)
  .exact I h
theorem abW{names:List (Str×NameKind)}:∀{n:Nat}{acc:e9}{x:Str},(x,.cell)∈names->∃c,(x,c)∈cellsFrom n names acc:=by
 induction names with
 |nil=>intro n acc x h;cases h
 |cons p r I=>
  intro n acc x h;delta cellsFrom;rcases a0.mp h with e|h
  .cases e;exact(n,Rm fG)
  .split
   .exact I h
   .exact I h
def abX{names:List (Str×NameKind)}:∀{h:Heap}{acc:e9}{x y:Str}{c:Addr},(∀p∈acc,p.2<h.objs.size)->(∀x y c,(x,c)∈acc->(y,c)∈acc->x=y)->
  (x,c)∈cellsFrom h.objs.size names acc->(y,c)∈cellsFrom h.objs.size names acc->x=y:=by
 induction names with
 |nil=>exact @λ_ _ _ _ _ _ hi j h2=>hi _ _ _ j h2
 |cons z r I=>
  let(n,k):=z;intro h acc x y c m hi j h2;delta cellsFrom at j h2;split at j
  .rename_i hk;rw[af hk] at h2;rw[<-qP h {cls:=.type "cell",data:=.cell none}] at j h2;apply I (h:=h.push _) (λp F=>?_) (λx y c a b=>?_) j h2
   .rw[qP];rcases a0.mp F with rfl|F
    .exact YN _
    .exact PJ (m p F)
   .rcases a0.mp a with e|a <;> rcases a0.mp b with G|b
    .cases e;cases G;rfl
    .cases e;exact absurd (m _ b) (qQ _)
    .cases G;exact absurd (m _ a) (qQ _)
    .exact hi _ _ _ a b
  .rename_i hk;rw[ah hk] at h2;exact I m hi j h2
def abY{M:Model}{A:Around}{E:VP}{s:Sh}{scope:Scope}{globals:Addr}{j:e9}{F:Str}{Y:OA}{code:Value}{m:Env}{z:Addr}{Q:Env->Shared->Prop}(h:Q (newEnv scope s.heap.objs.size globals (cellsFrom Ï scope.names j) F Y code (some m) z) {s with heap:=pushCells (s.heap.push {cls:=.type "dict",data:=.dict #[]}) scope.names}):
  wpAny M A (newFunctionEnv scope globals j [] F Y code (some m) z) Q E s:=by
 simp only[newFunctionEnv,aqd,Py];apply aQ (wpAny_alloc ?_);apply aQ (wpAny_layCells _ (λn k c=>Á) scope.names j _ _ ?_);rw[show({s with heap:=s.heap.push {cls:=.type "dict",data:=.dict #[]}}:Sh).heap.objs.size=s.heap.objs.size+1 from qP ..];rw[List.forIn_nil];exact aQ (di (di h))
def Rn{S:Scope}{names:List (Str×NameKind)}:∀{x:Str}{k:NameKind},
  (names.map λ(n,k)=>if (k==NameKind.free&&S.kind== .function&&S.names.lookup n==some .cell) then (n,NameKind.cell) else (n,k)).lookup x=some k->
  ∃z,names.lookup x=some z/\(k=z\/(z=.free/\k=.cell)):=by
 induction names with
 |nil=>
  intro _ _ h;simp at h
 |cons m r I=>
  let(n,j):=m;intro x k h;let I:=@I x k;let h':List.lookup x ((if (j==NameKind.free&&S.kind== .function&&S.names.lookup n==some .cell)=true then (n,NameKind.cell) else (n,j))::(r.map _))=some k:=h;cases hx:x==n with
  |true=>
   simp only[vC,hx];by_cases hc:(j==NameKind.free&&S.kind== .function&&S.names.lookup n==some .cell)=true
   .rw[af hc] at h';simp only[vC,hx] at h';cases h';simp only[iU,uv] at hc;exact(j,Á,.inr ⟨hc.1.1,Á⟩)
   .rw[ah hc] at h';simp only[vC,hx] at h';cases h';exact(_,Á,.inl Á)
  |false=>
   simp only[vC,hx];by_cases hc:(j==NameKind.free&&S.kind== .function&&S.names.lookup n==some .cell)=true
   .rw[af hc] at h';simp only[vC,hx] at h';exact I h'
   .rw[ah hc] at h';simp only[vC,hx] at h';exact I h'
structure xP(N:LS)(sc scope:Scope)(own:List (Str×Nat)):Prop where
 kind:scope.kind=.function
 uniq:∀y∈scope.names,scope.names.lookup y.1=some y.2
 ix:∀p∈own,N[p.2]? =some p.1
 free:∀y∈scope.names,y.2=.free->sc.names.lookup y.1=some .cell\/sc.names.lookup y.1=some .free
 own:∀y∈scope.names,y.2=.local\/y.2=.cell->y.1∈own.map (·.1)\/y.1∉N
def wipe(σ:St):LN->St
 |[]=>σ
 |v::vs=>(wipe σ vs).set v none
theorem Ro(σ:St):∀vs:LN,(wipe σ vs).length=σ.length:=by
 intro vs;induction vs with
 |nil=>exact Á
 |cons v vs I=>
  delta wipe;rw[List.length_set,I]
theorem Rp{σ:St}{i:Nat}{x:V}{vs:LN}:ĺ[i]? =some (some x)->σ[i]? =some (some x)/\i∉vs:=by
 induction vs with
 |nil=>exact @λh=>⟨h,by simp⟩
 |cons v vs I=>
  intro h;delta wipe at h;by_cases hi:v=i
  .subst hi;by_cases j:v<(wipe σ vs).length
   .rw[YI j] at h;cases h
   .rw[xp (À j)] at h;cases h
  .rw[YJ hi] at h;let(m,h2):=I h;exact(m,by simp only[a0,not_or];exact(λe=>hi e.symm,h2))
abbrev Cx.gw(X:Cx)(s:Sh)(H:Hp)(scope:Scope)(F:Env)(j:LA):Cx:={X with ic:=s,qV:=H,env:=F,outer:=X.stack,ex:=j,fn:=λx=>scope.names.lookup x==some .cell,pn:=[],xe:=λ_ _=>False}
section
variable{X:Cx}{pins:bJ}{σ:St}{H:Hp}{s:Sh}
def abZ{scope:Scope}{own:List (Str×Nat)}{fp:LA}(I:Ã H s)(ok:ĭ own)(hN:X.N.Nodup)(zl:∀b∈fp,Ł H b/\b<s.heap.objs.size):
  Inv (X.gw s H scope (compEnvC scope (cellsFrom Ï scope.names (Ų [])) s.heap.objs.size X.env) fp) [] (wipe σ (own.map (·.2))) H {s with heap:=pushCells (s.heap.push {cls:=.type "dict",data:=.dict #[]}) scope.names}:=by
 let D5:∀y∈scope.names,y.2=.free->∃c,X.env.cells.lookup y.1=some c:=λy O e=>by
  rcases ok.free y O e with k|k
  .exact I.ok.has _ (.inl k)
  .exact I.ok.has _ (.inr k)
 generalize hcenv:compEnvC scope (cellsFrom Ï scope.names (Ų [])) s.heap.objs.size X.env=F;let kp:∀b o,s.heap.get? b=some o->(pushCells (s.heap.push {cls:=.type "dict",data:=.dict #[]}) scope.names).get? b=some o:=λb o e=>PD _ _ _ _ (dq _ e);let hL:F.locals=s.heap.objs.size:=by rw[<-hcenv];rfl
 let Z:F.cells=cellsFrom Ï scope.names (Ų []):=by rw[<-hcenv];rfl
 let Jk:F.scope=abR scope X.env.scope:=by rw[<-hcenv];rfl
 rw[<-qP s.heap {cls:=.type "dict",data:=.dict #[]}] at Z;let cm:∀{y c},(y,c)∈je X.env.cells scope.names []->X.env.cells.lookup y=some c/\c<s.heap.objs.size:=λ{y c}J=>by
  rcases Rl J with J|⟨j,rfl⟩
  .cases J
  .let(c,hc):=D5 _ j rfl;rw[hc];let(w,z):=I.cell _ _ hc;exact(Á,z.lt)
 let mem:∀{y c},F.cells.lookup y=some c->(X.env.cells.lookup y=some c/\c<s.heap.objs.size)\/(s.heap.objs.size+1<=c/\Rk (pushCells (s.heap.push {cls:=.type "dict",data:=.dict #[]}) scope.names) c none):=λ{y c}e=>by
  rw[Z] at e;rcases Jj ϴ with J|⟨_,h2,h3⟩
  .exact .inl (cm J)
  .rw[qP] at h2;exact .inr ⟨h2,h3⟩
 let look:∀{y},scope.names.lookup y=some .free->∃c,F.cells.lookup y=some c/\X.env.cells.lookup y=some c:=λ{y}hl=>by
  let O:(y,NameKind.free)∈scope.names:=PySem.mem_of_lookup hl;let(c',G):=mem_lookup (Rm (names:=scope.names) (n:=(s.heap.push {cls:=.type "dict",data:=.dict #[]}).objs.size) (abV (cells:=X.env.cells) (acc:=[]) O));rw[<-Z] at G;apply(c',G,?_);rw[Z] at G;rcases Jj (PySem.mem_of_lookup G) with J|⟨j,_,_⟩
  .exact(cm J).1
  .let:=ok.uniq _ j;rw[hl] at this;cases this
 let okB:(X.gw s H scope F fp).Ok:=by
  refine⟨I.ok.mod,by show F.scope.kind=_;rw[Jk];exact ok.kind,by show F.globals=_;rw[<-hcenv];exact I.ok.glob,by show F.builtins=_;rw[<-hcenv];exact I.ok.blt,by show s.heap.objs.size<=F.locals;rw[hL];exact bU _,
   λy z c S U=>?_,λy O=>?_,λy c z e=>?_,I.ok.hd,I.ok.frames,.inl rfl,λb W=>⟨?_,λy c e z=>?_⟩,I.bs,ia I.ok.nG I.sz,λb o e W=>?_,λb W z=>?_,I.stack,I.D4⟩
  .let S:F.cells.lookup y=some c:=S;let U:F.cells.lookup z=some c:=U;rw[Z] at S U;apply abX (λp hp=>?_) (λy z c a b=>I.ok.inj y z c (cm a).1 (cm b).1) (PySem.mem_of_lookup S) (PySem.mem_of_lookup U);rw[qP];exact PJ (cm (y:=p.1) (c:=p.2) hp).2
  .show ∃c,F.cells.lookup y=some c;let gW:∀k,F.kindOf y=some k->(k=.cell\/k=.free)->∃c,F.cells.lookup y=some c:=λk hk lj=>by
    delta Env.kindOf at hk;rw[Jk] at hk;let(Y,e,r):=Rn hk;let:Y=.cell\/Y=.free:=by
     rcases r with rfl|⟨rfl,_⟩
     .exact lj
     .exact .inr Á
    rcases this with rfl|rfl
    .let(c,J):=abW (n:=(s.heap.push {cls:=.type "dict",data:=.dict #[]}).objs.size) (acc:=Ų []) ϴ;let(c',G):=mem_lookup J;exact(c',by rw[Z];exact G)
    .let(c,j,_):=look e;exact(c,j)
   rcases O with O|O
   .exact gW _ O ę
   .exact gW _ O Èz
  .let z:(scope.names.lookup y==some NameKind.cell)=true:=z;let z:scope.names.lookup y=some .cell:=by simpa using z
   let e:F.cells.lookup y=some c:=e;rw[Z] at e;rcases Jj ϴ with J|⟨_,h2,_⟩
   .rcases Rl J with J|⟨j,_⟩
    .cases J
    .let q:=ok.uniq _ j;rw[z] at q;cases q
   .rw[qP] at h2;exact PF h2
  .show b≠F.locals;rw[hL];exact ft (zl b W).2
  .let e:F.cells.lookup y=some c:=e;rcases mem e with ⟨j,_⟩|⟨j,_⟩
   .exact(zl b W).1.2.2.2.2.1 y c j z
   .let h2:s.heap.objs.size+1<=b:=by rw[<-z];exact j
    exact absurd (iB (zl b W).2 (PF h2)) (qQ _)
  .rcases(zl b W).1.2.2.2.1 with z|z
   .exact I.ok.yX b o e z
   .exact absurd (iB (c9 e) (ia I.ok.nG z)) (qQ _)
  .rcases a0.mp (I.Bc b z) with z|z
   .exact(zl b W).1.2.1 z
   .exact(zl b W).1.2.2.1 z
 apply(okB,Á,I.bare,Un.kept kp,⟨λ_=>none,?_,λi y av S U M=>?_⟩,λy c e=>?_,?_,λy c e=>?_,λp hp=>?_,I.ax.kept kp,by rw[Ro];exact I.len)
 .show Heap.Ns _ F.locals _;rw[hL];exact Heap.Ns.keeps (Heap.Ns.new ..) λb o e=>PD _ _ _ _ e
 .let(U,aU):=Rp U;let qf:scope.names.lookup y=some .free/\(F.kindOf y=some .cell\/F.kindOf y=some .free):=by
   let gW:∀k,F.scope.names.lookup y=some k->k=.local\/k=.cell\/k=.free->scope.names.lookup y=some .free/\(F.kindOf y=some .cell\/F.kindOf y=some .free):=λk hk lj=>by
    let Rq:=hk;rw[Jk] at hk;let(Y,e,r):=Rn hk;let no:¬(Y=.local\/Y=.cell):=λhh=>by
     rcases ok.own _ ϴ hh with G|G
     .let(p,hp,hpy):=cb.mp G;let M:=ok.ix p hp;let:p.1=y:=hpy;rw[this] at M;exact aU (cb.mpr ⟨p,hp,Iw hN M S⟩)
     .exact G (bI S)
    rcases r with rfl|⟨rfl,rfl⟩
    .rcases lj with rfl|rfl|rfl
     .exact absurd ę no
     .exact absurd Èz no
     .exact(e,.inr Rq)
    .exact(e,.inl Rq)
   let M:xx F.scope y:=M;rcases M with M|M|M
   .exact gW _ M ę
   .exact gW _ M (.inr ę)
   .exact gW _ M (.inr Èz)
  let(m,hn,hl):=I.loc;let ab2:xx X.env.scope y:=(ok.free _ (PySem.mem_of_lookup qf.1) rfl).elim (λk=>.inr (.inl k)) (λk=>.inr (.inr k));let(w,r,q):=hl i y av S U ab2;apply(w,r,.inr ⟨qf.2,?_⟩);let(c,j,h2):=look qf.1;rcases q with ⟨k,_⟩|⟨_,c',G,z⟩
  .let k:X.env.scope.names.lookup y=some .local:=k;rcases ok.free _ (PySem.mem_of_lookup qf.1) rfl with Y|Y <;> rw[show X.env.scope.names.lookup y=_ from Y] at k <;> cases k
  .rw[h2] at G;cases G;exact(c,j,z.keeps kp)
 .let e:F.cells.lookup y=some c:=e;rcases mem e with ⟨j,_⟩|⟨_,z⟩
  .let(w,z):=I.cell y c j;exact(w,z.keeps kp)
  .exact(_,z)
 .show H F.locals=none;rw[hL];exact I.ax.fresh (bU _)
 .let e:F.cells.lookup y=some c:=e;rcases mem e with ⟨j,_⟩|⟨j,_⟩
  .exact I.k8 y c j
  .exact I.ax.fresh (PF j)
 .exact absurd (show p∈([]:bJ)++[] from hp) Ä
def ab3(I:Ã H s)(j:H D=some Àj)(O:xs.length<sizeLine)(r:RelV y v)(h:∀s',Ã (upd H D (.lst (xs++[y]))) s'->Q .none s'):wpAny È X.A (call (.builtin "list.append") [.ref D,v]) Q E s:=by
 let(J,z,n,m,e):=I.ax D _ j;let M:=m.length;apply append_at (hsz:=by simp_all) e λh' S G=>?_;apply h {s with heap:=h'} (I.write (t':=s.toks) (by rw[j];trivial) ę (λb u F q=>(S.2 b F).trans q) ⟨_,G⟩ ⟨by grind,z++[v],n+1,m.append (.cons r .nil),?_⟩);symm
def xQ(X:Cx)(j:List Expr)(t:TT):Prop:=
 ∀(pins:bJ)(s:Sh)(σ:St)(H:Hp)(Q:Bool->Hp->Prop),Ã H s->t σ H Q->
  wpAny È X.A (forIn j true λc r=>if r=true then do let ok <-isTrue c X.env (eval c X.env);pure (ForInStep.yield ok) else pure (ForInStep.yield r)) Ãb X.xe s
def Bw:TT:=λ_ H Q=>Q true H
def eK:xQ X [] Bw:=λ_ _ _ H _ I h=>wpAny_tests_nil ⟨H,I,h⟩
def qg(h:PT X c t):xQ X [c] t:=λpins s σ H Q I hw=>wpAny_tests_one Âx
end
def Bx(h:Ϗ t Q Äg s)(j:∀a s,Q a s->Q' a s):Ϗ t Q' E s:=i6 h j λ_ _ z=>False.elim z
def ab4(I:Nat->Shared->Prop)(turn:∀n s,I n s->wpAny Ó A (pyNext it) (λr z=>match r with
   |none=>R (.ok .next) z
   |some v=>wpAny Ó A (letOwnedTupleGo DA it v) (λ_ S=>wpAny Ó A (assign DA env v) (λ_ M=>
     wpAny Ó A (forIn jC true λc r=>if r=true then do let ok <-isTrue c env (eval c env);pure (ForInStep.yield ok) else pure (ForInStep.yield r)) (λok F=>
      if ok=true then wpAny Ó A (eval kI env) (λx O=>
       wpAny Ó A (call (.builtin "list.append") [acc,x]) (λ_ U=>∃m,m<n/\I m U) (notedBy Ó A env λe s'=>R Àu s') O) (notedBy Ó A env λe s'=>R Àu s') F
      else ∃m,m<n/\I m F) (notedBy Ó A env λe s'=>R Àu s') M) (notedBy Ó A env λe s'=>R Àu s') S) (notedBy Ó A env λe s'=>R Àu s') z) (notedBy Ó A env λe s'=>R Àu s') s)
  (n:Nat) (h:I n s):
  codeAny Ó A (.compLoop (.ListComp kI [⟨DA,iter,jC,0⟩] scope pos) 0 it acc env) R s:=by
 apply codeAny_loop Á I (λn s W=>?_) n h;show wpAny _ A ((compTurn (.ListComp kI [⟨DA,iter,jC,0⟩] scope pos) 0 it acc env).onRaise (λx=>do noteFrame x env;theTreesLotGoes x)) _ _ s;apply wpAny_noted ?_;rw[compTurn_list];apply aQ (PK (aQ (i6 (turn n s W) (λr z G=>?_) λ_ _ h'=>h')));cases r with
 |none=>exact di G
 |some v=>
  apply aQ (i6 G (λ_ S j=>?_) λ_ _ h'=>h');apply aQ (i6 j (λ_ M Y=>aQ (i6 Y (λok F J=>?_) λ_ _ h'=>h')) λ_ _ h'=>h');cases ok with
  |false=>exact di ⟨Á,J⟩
  |true=>
   exact aQ (aQ (i6 J (λx O Z=>aQ (i6 Z (λ_ U h₅=>di (di ⟨Á,h₅⟩)) λ_ _ h'=>h')) λ_ _ h'=>h'))
section
inductive jX(D:Addr)(N:Hp->Prop)(y:V)(H:Hp):Prop
 |mk (acc:au) (_:H D=some (.lst acc)) (_:acc.length<sizeLine) (_:N (upd H D (.lst (acc++[y]))))
def By(F:TI)(g:TG)(tt:TT)(te:TE)(vs:LN):TE:=λσ H Q=>F σ H λJ H1=>∀D,H1 D=none->∃W:Nat->Nat->Hp->Prop,(∃m,W 0 m Č)/\∀i m H,W i m H->
 (J.stop i H/\Q Àt H)\/(J.go i H/\∃Nx:Hp->Prop,(∀H',Nx H'->∃M,M<m/\W (i+1) M H')/\∀x H',J.nJ i H x H'->g x ĺ H' λσ2 z=>wipe σ2 vs=wipe σ vs/\tt σ2 z λb j=>
  if b=true then te σ2 j Æd else Nx j)
def Rr{Ex:VP}{Eb:Cx->VP}(hc:X.calm=true) (hN:X.N.Nodup) (I:Ã H s) (hi:PI (X.iK Ex) tg iter wi) (ok:ĭ own)(hg:∀(s:Sh)(H:Hp)(C:Addr)(cl:e9)(fp:LA),PG Ð tg g) (ht:∀(s:Sh)(H:Hp)(C:Addr)(cl:e9)(fp:LA),xQ Ð jC tt)(he:∀(s:Sh)(H:Hp)(C:Addr)(cl:e9)(fp:LA),PE ((X.gw s H scope Àw fp).iK (Eb Ð)) kI te) (hs:∀x,foldedSetIterable iter X.env x=pure x)(h:By wi g tt te (own.map (·.2)) σ H Q)(hRR:∀D C s' m H',Ã H' s'->Q Àt H'->s'.heap.Ns C m->Ł H' C->compPost È X.A Ex use Qf Àt C (.ok .next) s')(hX:∀s3 H3 cl fp D e s',Ã H3 s3->(∀b∈fp,Ł H3 b/\b<s3.heap.objs.size)->Eb (X.gw s3 H3 scope ģ fp) e s'->notedBy È X.A ģ (λe=>compPost È X.A Ex use Qf Àt s3.heap.objs.size Àu) e s'):
  wpAny È X.A (comprehension à scope X.env jU (newList []) false (eval iter X.env) use) Qf Ex s:=by
 let D5:∀y∈scope.names,y.2=.free->∃c,X.env.cells.lookup y.1=some c:=λy hy e=>by
  rcases ok.free y hy e with k|k
  .exact I.ok.has _ (.inl k)
  .exact I.ok.has _ (.inr k)
 refine wpAny_comprehension_free (use:=use) Á hs (abT D5) ok.kind (λy hy e=>by rw[ok.uniq y hy,e])
  (aN (hi pins s σ H _ (I.iK _) h) λxv s1 hx=>aN hx λIG Y h2=>?_)
 let(it,fp,tn,J,H2,e,I2,T,Ef,f2,q):=h2;let I2:=I2.mf;subst e;apply Pn (abY ?_) (by show 0<=sizeLine;decide);generalize hD:Y.heap.objs.size=D;let hDn:H2 D=none:=I2.ax.fresh (DF hD);let(W,(m0,w0),turn):=q D hDn;generalize Jl:({Y with heap:=Y.heap.push {cls:=.type "list",data:=.seq ([]:LV).toArray}}:Sh)=s3;let Z:Ã Áb s3:=by
  rw[<-Jl];apply I2.laid (t':=Y.toks) Åu (DF hD) ⟨dv _,[],0,.nil,?_⟩;rw[<-hD];exact iq _ Á
 let h3:s3.heap=Y.heap.push {cls:=.type "list",data:=.seq ([]:LV).toArray}:=by rw[<-Jl]
 let sz:∀b∈fp,b<Y.heap.objs.size:=λb F=>by
  let(o,e,_):=T.obj _ _ Ef b F;exact c9 e
 let G:∀b∈fp,Ł Áb b/\b<s3.heap.objs.size:=λb F=>by
  let bW:=sz b F;apply(⟨?_,(f2 b F).2⟩,by rw[h3,qP];exact PJ bW);rw[aq (by grind)];exact(f2 b F).1
 let Eg:tn 0 s3.heap:=T.keep _ _ _ Ef λb _ o e=>by rw[h3];exact dq _ e
 let I4:=abZ Z ok hN G;let pg:=hg s3 Áb s3.heap.objs.size é fp;let pt:=ht s3 Áb s3.heap.objs.size é fp;let pe:=he s3 Áb s3.heap.objs.size é fp;show codeAny _ _ (.compStart à 0 Ãi Àt (compEnvC scope é s3.heap.objs.size X.env)) (compPost È X.A Ex use Qf Àt s3.heap.objs.size) {s3 with heap:=pushCells (s3.heap.push {cls:=.type "dict",data:=.dict #[]}) scope.names};let Rt:∀b∈fp,(Áb) b=none:=λb F=>(G b F).1.1;generalize lp:compEnvC scope é s3.heap.objs.size X.env=ce at I4 pg pt pe⊢;let cL:ce.locals=s3.heap.objs.size:=by subst lp;rfl
 generalize hH3:upd H2 D â=H3 at Z I4 pg pt pe w0 Rt G;generalize hs4:({s3 with heap:=pushCells (s3.heap.push {cls:=.type "dict",data:=.dict #[]}) scope.names}:Sh)=s4 at I4⊢;let Ru:tn 0 s4.heap:=T.keep _ _ _ Eg λb _ o e=>by rw[<-hs4];exact PD _ _ _ _ (dq _ e)
 let xD:∀{σ':St}{H':Hp}{s':Sh},Inv Ĝ [] σ' H' s'->(∀b∈fp,H' b=none)->∀b∈fp,mh Ĝ [] H' b:=λ{σ' H' s'}O U b F=>
  ⟨U b F,(O.ok.Bb b F).1,O.ok.yY b F,.inl F,λx c e=>(O.ok.Bb b F).2 x c e,λp hp=>absurd (show p∈([]:bJ)++[] from hp) Ä⟩
 let Yy:codeAny È X.A (.compLoop à 0 Ãi Àt ce) (compPost È X.A Ex use Qf Àt s3.heap.objs.size) s4:=by
  apply ab4 (λn s'=>∃i H',Inv Ĝ [] (wipe σ (own.map (·.2))) H' s'/\tn i s'.heap/\(∀b∈fp,H' b=none)/\W i n H') ?_ m0 ⟨0,H3,I4,Ru,Rt,w0⟩;rintro n s5 ⟨i,M,I5,y9,n5,w5⟩;rcases turn i n M w5 with ⟨stop,qq⟩|⟨go,Nx,hNx,step⟩
  .let td:=T.done Ĝ rfl rfl rfl hc i [] s5 _ M Äg I5 (xD I5 n5) y9 stop;apply Bx td λr s6 ⟨hr,S⟩=>?_;subst hr;let I7:Ã M s6:=Z.vI (ch:=fp) S.os S.base S.ax S.bare λb F=>⟨(G b F).1.2.2.2.1,(G b F).1.2.1,(G b F).1.2.2.2.2.1,(G b F).1.2.2.2.2.2⟩;let nC:M s3.heap.objs.size=none:=by
    let z:M ce.locals=none:=S.free;rw[cL] at z;exact z
   let(m,U,_):=S.loc;let U:s6.heap.Ns ce.locals m:=U;rw[cL] at U;exact hRR D s3.heap.objs.size s6 m M I7 qq U (Z.vM (bU _) nC)
  .let ti:=T.item Ĝ rfl rfl rfl hc i [] s5 _ M Äg I5 (xD I5 n5) y9 go;apply Bx ti λr s6 ⟨u,hr,h6⟩=>?_;subst hr;apply Bx h6 λ_ s7 ⟨x,H7,I7,r7,y7,Jm,n7⟩=>?_;let I7':=I7.pinned (xD I7 n7) (T.obj _ _ Jm);apply Bx (pg _ s7 _ H7 x u _ I7' r7 (step x H7 y7)) λ_ s8 ⟨σ8,H8,I8,Es,q8⟩=>?_;apply Bx (pt _ s8 σ8 H8 _ I8 q8) λb s9 ⟨H9,I9,q9⟩=>?_;let fin:∀{s':Sh}{H':Hp},Inv Ĝ ([]++Bl fp s7.heap) σ8 H' s'->Nx H'->∃m,m<n/\∃i H',Inv Ĝ [] (wipe σ (own.map (·.2))) H' s'/\tn i s'.heap/\(∀b∈fp,H' b=none)/\W i m H':=λ{s' H'}O nx=>by
    let(m',hm,w'):=hNx H' nx;let Rv:∀b∈fp,∀o,s7.heap.get? b=some o->s'.heap.get? b=some o/\H' b=none:=λb F o e=>
     let z:=O.pin (b,o) (uu _ (uu _ (II F e)))
     ⟨z.1,z.2.1⟩
    let hl:(wipe σ (own.map (·.2))).length=σ8.length:=by rw[<-Es,Ro]
    apply(m',hm,i+1,H',(O.Ee (pins:=[])).weak hl (λj v e=>?_),T.keep _ _ _ Jm λb F o e=>(Rv b F o e).1,λb F=>?_,w')
    .rw[<-Es] at e;exact(Rp e).1
    .let(o,e,_):=T.obj _ _ Jm b F;exact(Rv b F o e).2
   cases b with
   |false=>
    simp only[Bool.false_eq_true,if_false] at q9⊢;exact fin I9 q9
   |true=>
    simp only[Py] at q9⊢;exact i6 (pe _ s9 σ8 H9 _ (I9.iK _) q9) (λz oU ⟨yv,Et,I10,r10,acc,acb,acd,nx⟩=>ab3 (X:=X.gw s3 H3 scope ce fp) I10.mf acb acd r10 λlr vU=>fin vU nx) λe oU hz=>lp▸ hX s3 H3 _ fp D e oU Z G (lp▸ hz)
 exact codeAny_compStart_list Yy (T.self X.A 0 _ _ _ Ru Yy)
def eE(hc:X.calm=true)(S:X.N.Nodup)(hi:PI X tg iter wi)(ok:ĭ own)(Y:∀(s:Sh)(H:Hp)(C:Addr)(cl:e9)(fp:LA),PG Ð tg g) (ht:∀(s:Sh)(H:Hp)(C:Addr)(cl:e9)(fp:LA),xQ Ð jC tt)(W:∀(s:Sh)(H:Hp)(C:Addr)(cl:e9)(fp:LA),PE Ð kI te) (hs:∀x,foldedSetIterable iter X.env x=pure x:=by intro _;rfl):
  PE X à (By wi g tt te (own.map (·.2))):=by
 show Ò;rw[eval_ListComp];apply Rr (Ex:=X.xe) (Eb:=λ_ _ _=>False) hc S I hi ok Y ht W hs h (λD C s' m H' j q Z f=>⟨m,Z,λqh sb=>?_⟩) λ_ _ _ _ _ _ _ _ _ z=>z.elim;let(F,G,f2,J,M,O):=f;exact(.ref D,H',j.turned (t':=s'.toks) (λb o U e=>(sb.2 b U).trans e) F G J M O,Á,q)
def Rw{Ex:VP}{Eb:Cx->VP}(hc:X.calm=true)(z:X.N.Nodup)(hy:X.N[i]? =some y)(F:X.env.scope.names.lookup y=some .local)(G:swapsWith à (some (.Name y py)) vV.line X.env=pure true) (hi:PI (X.iK Ex) tg iter wi) (ok:ĭ own)(hg:∀(s:Sh)(H:Hp)(C:Addr)(cl:e9)(fp:LA),PG Ð tg g) (ht:∀(s:Sh)(H:Hp)(C:Addr)(cl:e9)(fp:LA),xQ Ð jC tt)(he:∀(s:Sh)(H:Hp)(C:Addr)(cl:e9)(fp:LA),PE ((X.gw s H scope Àw fp).iK (Eb Ð)) kI te) (hs:∀x,foldedSetIterable iter X.env x=pure x) (hX:∀{use:Option (Value->Sem Unit)}{Qf:VP}pins σ s3 H3 cl fp D e s',Ã H3 s3->(∀b∈fp,Ł H3 b/\b<s3.heap.objs.size)->Eb (X.gw s3 H3 scope ģ fp) e s'->notedBy È X.A ģ (λe=>compPost È X.A Ex use Qf Àt s3.heap.objs.size Àu) e s'):
  PS (X.iK Ex) (.Assign [.Name y py] à vV) (y8 (By wi g tt te (own.map (·.2))) (p7 i)):=by
 intro pins s σ H D I h;rw[exec_Assign_Name_used _ _ _ _ G];apply aQ (PK (aQ ?_));let h:=h;apply aQ (aN (Rr (X:=X) (Eb:=Eb) (Qf:=λ_ s'=>SP (X.iK Ex) pins D .next s') hc z I.mf hi ok hg ht he hs h (λL C s' m H' J q hn f=>?_) (hX pins σ)) λ_ s' hq=>di (di hq));apply wpAny_assign_Name (Qk (v:=V.ref L) J z hy (.inl F) Á (λs2 M ⟨a,sb,ha⟩=>?_) (.inr F));let(O,U,f2,W,Y,Z):=f;let j:C≠a:=by
  grind
 apply(m,hn.sameBut sb j,λh3 S=>?_);exact(_,H',(M.turned (t':=s2.toks) (λb o hb e=>(S.2 b hb).trans e) O U W Y Z).iK _,q)
def uO(hc:X.calm=true)(m:X.N.Nodup)(J:X.N[i]? =some y)(S:X.env.scope.names.lookup y=some .local)(j:swapsWith à (some (.Name y py)) vV.line X.env=pure true) (hi:PI X tg iter wi) (ok:ĭ own)(G:∀(s:Sh)(H:Hp)(C:Addr)(cl:e9)(fp:LA),PG Ð tg g) (I:∀(s:Sh)(H:Hp)(C:Addr)(cl:e9)(fp:LA),xQ Ð jC tt)(F:∀(s:Sh)(H:Hp)(C:Addr)(cl:e9)(fp:LA),PE Ð kI te) (hs:∀x,foldedSetIterable iter X.env x=pure x:=by intro _;rfl):
  PS X (.Assign [.Name y py] à vV) (y8 (By wi g tt te (own.map (·.2))) (p7 i)):=by
 exact Rw (Ex:=X.xe) (Eb:=λ_ _ _=>False) hc m J S j hi ok G I F hs λ_ _ _ _ _ _ _ _ _ _ _ z=>z.elim
end
def Eu{lo:Int}{n:Nat}{g:TG}{tt:TT}{te:TE}{vs:LN}{σ:St}{H1:Hp}{D:Addr}{Qd:Hp->Prop}(j:Nat->Hp->Prop)(I:j 0 Č)(hs:∀i H,i<n->j i H->g (.int (lo+i)) ĺ H λσ2 F=>wipe σ2 vs=wipe σ vs/\tt σ2 F λb z=>
   if b=true then te σ2 z (jX D (j (i+1))) else j (i+1) z) (hd:∀H,j n H->Qd H):
  ∃W:Nat->Nat->Hp->Prop,(∃m,W 0 m Č)/\∀i m H,W i m H->
   ((xB lo n).stop i H/\Qd H)\/((xB lo n).go i H/\∃Nx:Hp->Prop,(∀H',Nx H'->∃M,M<m/\W (i+1) M H')/\∀x H',(xB lo n).nJ i H x H'->g x ĺ H' λσ2 F=>wipe σ2 vs=wipe σ vs/\tt σ2 F λb z=>
    if b=true then te σ2 z Æd else Nx z):=by
 apply(λi m H=>m=n-i/\i<=n/\j i H,⟨n,by simp,dv _,I⟩,?_);rintro i m H ⟨rfl,hi,p⟩;by_cases G:i<n
 .apply .inr ⟨G,j (i+1),λH' J=>⟨n-(i+1),by omega,rfl,G,J⟩,λx H' y=>?_⟩;let(e,y):=y;symm
 .let e:i=n:=by omega
  subst e;exact .inl ⟨bU _,hd H p⟩
def gy{K:FR}{a:Addr}{xs:au}{g:TG}{tt:TT}{te:TE}{vs:LN}{σ:St}{H1:Hp}{D:Addr}{Qd:Hp->Prop}(j:Nat->Hp->Prop)(I:j 0 Č)(J:∀i H,i<=xs.length->j i H->ä a xs)(hs:∀i x H,xs[i]? =some x->j i H->g x ĺ H λσ2 F=>wipe σ2 vs=wipe σ vs/\tt σ2 F λb z=>
   if b=true then te σ2 z (jX D (j (i+1))) else j (i+1) z) (hd:∀H,j xs.length H->Qd H):
  ∃W:Nat->Nat->Hp->Prop,(∃m,W 0 m Č)/\∀i m H,W i m H->
   ((vN K a).stop i H/\Qd H)\/((vN K a).go i H/\∃Nx:Hp->Prop,(∀H',Nx H'->∃M,M<m/\W (i+1) M H')/\∀x H',(vN K a).nJ i H x H'->g x ĺ H' λσ2 F=>wipe σ2 vs=wipe σ vs/\tt σ2 F λb z=>
    if b=true then te σ2 z Æd else Nx z):=by
 apply(λi m H=>m=xs.length-i/\i<=xs.length/\j i H,⟨xs.length,by simp,dv _,I⟩,?_);rintro i m H ⟨rfl,hi,p⟩;let q:=J i H hi p;by_cases G:i<xs.length
 .apply .inr ⟨⟨xs,xs[i],q,by simp[G]⟩,j (i+1),λH' O=>⟨xs.length-(i+1),by omega,rfl,G,O⟩,λx H' y=>?_⟩;let(e,y):=y;subst e;exact hs i x _ (y xs q) p
 .let e:i=xs.length:=by omega
  subst e;exact .inl ⟨⟨xs,q,bU _⟩,hd H p⟩
def Rx(N:LS)(S scope:Scope)(own:List (Str×Nat)):Bool:=
 (match scope.kind with|.function=>true|_=>false)&&(scope.names.all λy=>decide (scope.names.lookup y.1=some y.2))&&(own.all λp=>decide (N[p.2]? =some p.1))&&
  (scope.names.all λy=>match y.2 with
   |.free=>(match S.names.lookup y.1 with|some .cell=>true|some .free=>true|_=>false)
   |.local=>decide (y.1∈own.map (·.1))||decide (y.1∉N)
   |.cell=>decide (y.1∈own.map (·.1))||decide (y.1∉N)
   |_=>true)
def c8{N:LS}{S scope:Scope}{own:List (Str×Nat)}(h:Rx N S scope own=true):xP N S scope own:=by
 delta Rx at h;simp only[iU,kU,lL] at h;let(((m,h2),F),z):=h;apply(?_,h2,F,λy j e=>?_,λy j e=>?_)
 .split at m
  .assumption
  .cases m
 .let q:=z y j;simp only[e] at q;split at q <;> first|exact .inl (by assumption)|exact .inr (by assumption)|cases q
 .let q:=z y j;rcases e with e|e <;> (simp only[e,PL,lL] at q;exact q)
section
variable{κ:Type}[DecidableEq κ]
def gh(kvs:List (κ×V))(k:κ):Option V:=(kvs.find? λkv=>decide (kv.1=k)).map (·.2)
def putK(kvs:List (κ×V))(k:κ)(v:V):List (κ×V):=
 if (kvs.any λkv=>decide (kv.1=k))=true then kvs.map (λkv=>if kv.1=k then (kv.1,v) else kv) else kvs++[(k,v)]
def rl{p:κ×V}{r:List (κ×V)}{k:κ}(e:p.1=k):gh (p::r) k=some p.2:=by simp[gh,kW,e]
def rn{p:κ×V}{r:List (κ×V)}{k:κ}(e:¬p.1=k):gh (p::r) k=gh r k:=by simp[gh,kW,e]
theorem Jn(k:κ):∀kvs:List (κ×V),(kvs.any λkv=>decide (kv.1=k))=(gh kvs k).isSome:=by
 intro kvs;induction kvs with
 |nil=>exact Á
 |cons p r I=>
  rw[ux];by_cases e:p.1=k
  .simp only[rl e,eP e,Bool.true_or,aqd]
  .rw[rn e,f7 e,PM];exact I
theorem acg(k j:κ)(y:V):∀kvs:List (κ×V),gh (kvs.map λkv=>if kv.1=k then (kv.1,y) else kv) j=(gh kvs j).map λx=>if j=k then y else x:=by
 intro kvs;induction kvs with
 |nil=>exact Á
 |cons p r I=>
  let I:=I;rw[aX];by_cases h:p.1=k
  .rw[af h];by_cases e:p.1=j
   .rw[rl (p:=(p.1,y)) e,rl e,HP,af (e.symm.trans h)]
   .rw[rn (p:=(p.1,y)) e,rn e,I]
  .rw[ah h];by_cases e:p.1=j
   .rw[rl (p:=p) e,rl e,HP,ah (λz=>h Èc)]
   .rw[rn (p:=p) e,rn e,I]
theorem ach(k j:κ)(y:V):∀kvs:List (κ×V),gh kvs k=none->gh (kvs++[(k,y)]) j=if j=k then some y else gh kvs j:=by
 intro kvs;induction kvs with
 |nil=>
  intro _;by_cases e:k=j
  .rw[af e.symm];exact rl (p:=(k,y)) e
  .rw[ah (λz=>e z.symm)];exact rn (p:=(k,y)) e
 |cons p r I=>
  intro m;rw[List.cons_append];let hk:¬p.1=k:=λz=>by rw[rl z] at m;cases m
  rw[rn hk] at m;let I:=I m;by_cases e:p.1=j
  .rw[rl e,rl e,ah (λz=>hk Èc)]
  .rw[rn e,rn e,I]
def aci(kvs:List (κ×V))(k j:κ)(y:V):gh (ō y) j=if j=k then some y else gh kvs j:=by
 delta putK;by_cases a:(kvs.any λkv=>decide (kv.1=k))=true
 .rw[af a,acg];rw[Jn] at a;by_cases e:j=k
  .let(x,m):=HK.mp a;symm
  .symm
 .rw[ah a];apply ach k j y kvs ?_;rw[Jn] at a;symm
def BA(kvs:List (κ×V))(k:κ)(v:V):(ō v).length<=kvs.length+1:=by
 delta putK;grind
theorem jW.Jo(r:jW o u):o.isSome=u.isSome:=by
 cases o with
 |none=>cases u with
  |none=>rfl
  |some _=>exact(show False from r).elim
 |some _=>cases u with
  |none=>exact(show False from r).elim
  |some _=>rfl
theorem jW.getD(r:jW o u)(j:RelV d d'):RelV (o.getD d) (u.getD d'):=by
 cases o with
 |none=>cases u with
  |none=>exact j
  |some _=>exact(show False from r).elim
 |some _=>cases u with
  |none=>exact(show False from r).elim
  |some _=>exact r
theorem KV.val{kvs:List (κ×V)}{vs:List (κ×Value)}(r:KV kvs vs)(k:κ):jW (gh kvs k) (valueAt vs k):=by
 delta KV at r;induction r with
 |nil=>exact True.intro
 | @cons p q ps qs h t ih=>
  let(m,h2):=h;by_cases e:p.1=k
  .let j:q.1=k:=m.symm.trans e;let b:valueAt (q::qs) k=some q.2:=by simp[valueAt,kW,j]
   rw[rl e,b];exact h2
  .let j:¬q.1=k:=λz=>e (m.trans z);let b:valueAt (q::qs) k=valueAt qs k:=by simp[valueAt,kW,j]
   rw[rn e,b];exact ih
theorem KV.any(r:KV kvs vs)(k:κ):(kvs.any λkv=>decide (kv.1=k))=vs.any λkv=>decide (kv.1=k):=by
 delta KV at r;induction r with
 |nil=>rfl
 |cons h t I=>symm
def KV.Jp(r:KV kvs vs)(k:κ)(j:RelV y u):
  KV (kvs.map λkv=>if kv.1=k then (kv.1,y) else kv) (vs.map λkv=>if kv.1=k then (kv.1,u) else kv):=by
 delta KV at r⊢;induction r with
 |nil=>exact .nil
 | @cons p q ps qs h t ih=>
  rw[aX,aX];apply .cons ?_ ih;grind
def KV.put(r:KV kvs vs)(k:κ)(j:RelV y u):KV (ō y) (stored vs k u):=by
 delta putK stored;rw[r.any k];by_cases e:(vs.any λkv=>decide (kv.1=k))=true
 .rw[af e,af e];exact r.Jp k j
 .rw[ah e,ah e];exact Paired.snoc r ⟨Á,j⟩
def KV.length{kvs:List (κ×V)}{vs:List (κ×Value)}(r:KV kvs vs):kvs.length=vs.length:=Paired.length r
end
theorem vW(r:RelV (kV k) u):(fb P w).is k u=true:=by
 cases k with
 |inl i=>let(t,e):=(show ∃t,u=Value.int i t from r);subst e;exact Z6 P w i t
 |inr x=>let(t,e):=(show ∃t,u=Value.str x t from r);subst e;exact Z7 P w x t
theorem acj{P:Pg}{w:Wd}{ks:eB}:∀{U:LV},bh (ks.map kV) U->ItemsAre Ây ks U:=by
 induction ks with
 |nil=>
  intro _ r;rw[lK] at r;cases r;exact .nil
 |cons k ks I=>
  intro _ r;rw[aX] at r;cases r with
  |cons h t=>exact .cons (vW h) (I t)
abbrev KT(H:Hp):List (eB×V)->List (eB×Addr×Value)->Prop:=Paired λp q=>p.1=q.1/\H q.2.1=some (.tup (p.1.map kV))/\RelV p.2 q.2.2
theorem KT.val{H:Hp}{kvs:List (eB×V)}{xs:List (eB×Addr×Value)}(r:KT H kvs xs)(k:eB):jW (gh kvs k) ((atKey xs k).map (·.2)):=by
 induction r with
 |nil=>exact True.intro
 | @cons p q ps qs h t ih=>
  let(m,_,h2):=h;by_cases e:p.1=k
  .let j:q.1=k:=m.symm.trans e;let b:atKey (q::qs) k=some q.2:=by simp[atKey,kW,j]
   rw[rl e,b];exact h2
  .let j:¬q.1=k:=λz=>e (m.trans z);let b:atKey (q::qs) k=atKey qs k:=by simp[atKey,kW,j]
   rw[rn e,b];exact ih
def KT.Jp{H:Hp}{kvs:List (eB×V)}{xs:List (eB×Addr×Value)}(r:KT H kvs xs)(k:eB){y:V}{u:Value}(F:RelV y u):
  KT H (kvs.map λkv=>if kv.1=k then (kv.1,y) else kv) (xs.map (putAt k u)):=by
 induction r with
 |nil=>exact .nil
 | @cons p q ps qs h t ih=>
  rw[aX,aX];apply .cons ?_ ih;let(j,h2,m):=h;delta putAt;by_cases e:p.1=k
  .rw[af e,af (j.symm.trans e)];exact(j,h2,F)
  .rw[ah e,ah (λz=>e (j.trans z))];exact(j,h2,m)
def KT.put(r:KT H kvs xs)(k:eB)(m:H b=some Âq)(j:RelV y u):
  KT H (ō y) (storedH xs k b u):=by
 let e:(kvs.any λkv=>decide (kv.1=k))=(atKey xs k).isSome:=by
  rw[Jn,(r.val k).Jo,DP]
 delta putK storedH;rw[e];by_cases q:(atKey xs k).isSome=true
 .rw[af q,af q];exact r.Jp k j
 .rw[ah q,ah q];exact Paired.snoc r ⟨Á,m,j⟩
def KT.keeps(r:KT H kvs xs)(j:∀b ys,H b=some Æg->H' b=some Æg):KT H' kvs xs:=
 Paired.md r λ_ _ z=>⟨z.1,j _ _ z.2.1,z.2.2⟩
section
def Ry(ok:ġ h)(e:Rd H a u):Ày u:=e.ok ok
def xR(ok:ġ h)(e:Rd H a ē):kvs.length<=sizeLine/\(a==sysModules)=false/\∃vs,KV kvs vs/\h.DictOf Ây a vs:=
 show fJ P w H h a ē from Ry ok e
def Ew(ok:ġ h)(e:H a=some ē):kvs.length<=sizeLine/\(a==sysModules)=false/\∃vs,KV kvs vs/\h.DictOf Ây a vs:=xR ok (.inl e)
def xS{ks:eB}(ok:ġ h)(e:H a=some (.tup (ks.map kV))):(tupleKind Ây).is h ks a:=by
 let(_,j,r,o,m,h2,n,z):=(show fJ P w H h a (.tup (ks.map kV)) from ok a _ e);exact(o,j.toArray,n,m,h2,z,by simpa using acj r)
def xT{kvs:List (eB×V)}(ok:ġ h)(e:Rd H a Ãj):kvs.length<=sizeLine/\(a==sysModules)=false/\
  ∃xs,KT H kvs xs/\h.DictOfH Çr a xs:=by
 let(z,y,xs,r,o,es,ep,F,h2,G,I,J):=(show fJ P w H h a Ãj from Ry ok e);apply(z,y,xs,r,o,es,ep,F,h2,G,I,λx j=>?_,J);let all:∀{l:List (eB×V)}{m:List (eB×Addr×Value)},KT H l m->∀x∈m,(tupleKind Ây).is h x.1 x.2.1:=by
  intro l m q;induction q with
  |nil=>intro x j;exact nomatch j
  | @cons p q ps qs hq t ih=>
   intro x j;rcases a0.mp j with e|j
   .subst e;exact xS ok (by rw[<-hq.1];exact hq.2.1)
   .exact ih x j
 exact all r x j
def ack(ok:ġ h)(e:H a=some Ãj):kvs.length<=sizeLine/\(a==sysModules)=false/\
  ∃xs,KT H kvs xs/\h.DictOfH Çr a xs:=xT ok (.inl e)
end
def jY(H:Hp)(a:Addr)(y:V)(r:Option V):Prop:=
 (∃kvs k,Rd H a ē/\y=kV k/\r=gh kvs k)\/∃kvs k b,Rd H a Ãj/\y=.ref b/\H b=some Âq/\r=gh kvs k
def xU(H:Hp)(a:Addr)(y v:V)(H':Hp):Prop:=
 (∃kvs k,H a=some ē/\y=kV k/\kvs.length<sizeLine/\H'=upd H a (.dK (ō v)))\/
 ∃kvs k b,H a=some Ãj/\y=.ref b/\H b=some Âq/\kvs.length<sizeLine/\H'=upd H a (.dT (ō v))
def jY.k{H:Hp}{a:Addr}{kvs:List (Key×V)}{k:Key}(e:H a=some ē):jY H a (kV k) (gh kvs k):=.inl ⟨kvs,k,.inl e,rfl,rfl⟩
def jY.t{H:Hp}{a b:Addr}{kvs:List (eB×V)}{k:eB}(e:H a=some Ãj)(j:H b=some Âq):jY H a (.ref b) (gh kvs k):=.inr ⟨kvs,k,b,.inl e,rfl,j,rfl⟩
def xU.k{H:Hp}{a:Addr}{kvs:List (Key×V)}{k:Key}{v:V}(e:H a=some ē)(j:kvs.length<sizeLine):xU H a (kV k) v (Ū (.dK (ō v))):=.inl ⟨kvs,k,e,rfl,j,rfl⟩
section
variable{X:Cx}{pins:bJ}{σ:St}{H:Hp}{s:Sh}{a:Addr}{y v:V}{u r:Value}{o:Option V}{A:Around}{E:VP}
def Inv.big(I:Ã H s):sysModules<s.heap.objs.size:=by
 let h:mainGlobals<s.heap.objs.size:=(I.mod.glob.keeps I.bk).lt;exact HQ Ù h
def acm(S:A.units+1<cLine)(I:Ã H s)(g:jY H a y Ãt)(G:RelV y u)(h:∀W s',Ã H s'->RelV v W->Q W s'):
  wpAny È A (getItem Ğ u) Q E s:=by
 rcases g with ⟨kvs,k,e,j,l⟩|⟨kvs,k,b,e,j,M,l⟩
 .subst j;let(z,hd,vs,F,dd):=xR I.ax e;let(W,m,J):=jW.some_of (v:=v) (o:=valueAt vs k) (by rw[l];exact F.val k);exact wpAny_getItem_of (vW G) dd.mapOf m (h W _ (I.tok _) J)
 .subst j;cases (show u=Value.ref b from G);let(z,hd,xs,F,dd):=xT I.ax e;let(W,m,J):=jW.some_of (v:=v) (o:=(atKey xs k).map (·.2)) (by rw[l];exact F.val k);let(p,O,qT):=yP.mp m;apply wpAny_getItem_heap (DQ S) (xS I.ax M) dd O ?_;rw[qT];exact h W _ (I.tok _) J
def acn(J:A.units+1<cLine)(I:Ã H s)(g:jY H a y o)(m:RelV y u)(h:∀s',Ã H s'->Q (.bool (!o.isSome)) s'):
  wpAny È A (compareOp .NotIn u Ğ) Q E s:=by
 rcases g with ⟨kvs,k,e,j,l⟩|⟨kvs,k,b,e,j,G,l⟩
 .subst j;let(z,hd,vs,F,dd):=xR I.ax e;apply wpAny_notIn_of (vW m) hd dd.mapOf ?_;rw[<-(F.val k).Jo,<-l];exact h _ (I.tok _)
 .subst j;cases (show u=Value.ref b from m);let(z,hd,xs,F,dd):=xT I.ax e;apply wpAny_notIn_heap (DQ J) (xS I.ax G) hd dd ?_;let q:=(F.val k).Jo;rw[DP] at q;rw[<-q,<-l];exact h _ (I.tok _)
def Jq{h':Heap}{t':Nat}{O:HO}(I:Ã H s)(M:uD (H a))(hs:Heap.SameBut a s.heap h')(m:∃q,h'.get? a=some q)(new:Àc (Ū O) h' a O):
  Inv X pins σ (Ū O) {s with heap:=h',toks:=t'}:=
 I.write (x:=a) (e:=a) M (.inl rfl) (λb q j z=>(hs.2 b j).trans z) m new
def Rz(z:kvs.length<=sizeLine)(hd:(a==sysModules)=false)(F:KV kvs vs)(dd:h'.DictOf Ây a vs):
  fJ P w H' h' a ē:=⟨z,hd,vs,F,dd⟩
def aco{H':Hp}{Q:Unit->Shared->Prop}(hu:A.units+1<cLine)(I:Ã H s)(g:xU H a y v H')(Y:RelV y u)(W:RelV v r)(h:∀s',Ã H' s'->Q () s'):
  wpAny È A (setItem Ğ u r) Q E s:=by
 rcases g with ⟨kvs,k,e,G,l,m⟩|⟨kvs,k,b,e,G,O,l,m⟩
 .subst G m;let(z,hd,vs,F,dd):=Ew I.ax e;let M:vs.length<=sizeLine:=by rw[<-F.length];exact z
  let J:(ō v).length<=sizeLine:=by let:=BA kvs k v;omega
  apply wpAny_setItem_pairs (hsz:=M) (vW Y) dd λh' S hs=>h _ ?_;let he:∃q,h'.get? a=some q:=let ⟨q,_,_,j,_⟩:=S;⟨q,j⟩;exact Jq I (by rw[e];exact True.intro) hs he (Rz J hd (F.put k W) S)
 .subst G m;cases (show u=Value.ref b from Y);let(z,hd,xs,F,dd):=ack I.ax e;let M:xs.length<=sizeLine:=by rw[<-Paired.length F];exact z
  let J:(ō v).length<=sizeLine:=by let:=BA kvs k v;omega
  apply wpAny_setItem_heap (hsz:=M) (DQ hu) (xS I.ax O) dd λh' S hs=>h _ ?_;let(q,es,ep,j,h2,Z,h4,_,h5):=S;apply Jq I (by rw[e];exact True.intro) hs ⟨q,j⟩ ⟨J,hd,_,(F.put k O W).keeps λc ys U=>?_,q,es,ep,j,h2,Z,h4,h5⟩;rw[aq (Qi U e (λz=>nomatch z))];exact U
end
section
variable{X:Cx}{pins:bJ}{σ:St}{H:Hp}{s:Sh}{a:Addr}{kvs:List (Key×V)}{k:Key}{u:Value}{A:Around}{E:VP}
end
def RA(i:Expr):Prop:=∀O iv,subscripted i false O iv=operate [O,iv] (getItem O iv)
def acp{prog:Pg}{w:Wd}{A:Around}{E:VP}{s:Sh}{env:Env}{J j:Expr}{pos:Pos}{T id:String}{Q:VP}(I:typeLookup (.type T) "__getitem__"=pure (some ϒ)) (hs:RA j)(h:wpAny Ó A (eval J env) (λo F=>wpAny Ó A (eval j env) (λi S=>S.TypeIs o T/\wpAny Ó A (getItem o i) Q E S) E F) E s):
  wpAny Ó A (eval (.Subscript J j pos) env) Q E s:=by
 apply Subscript_ (i6 h (λo F M=>i6 M (λi S m=>?_) λ_ _ x=>x) λ_ _ x=>x);let(z,m):=m;delta subscriptTail;apply aQ ?_;rw[getitemInPython_of_ne z.not_modules];apply aQ (wpAny_specialOf z I ?_);let fin:wpAny Ó A (subscripted j false o i) (λr G=>wpAny Ó A (letTemporaryGo J o r >>= λ_=>pure r) Q E G) E S:=by
  rw[hs o i];exact wpAny_operating (i6 m (λr G O=>aQ (wpAny_letTemporaryGo (di O))) λ_ _ x=>x)
 first
  |exact di (aQ fin)
  |exact aQ (di (aQ fin))
  |exact aQ fin
def acq(I:Ã H s)(g:jY H a y o):s.TypeIs Ğ "dict":=by
 rcases g with ⟨kvs,k,e,_,_⟩|⟨kvs,k,b,e,_,_,_⟩
 .let(_,_,vs,_,dd):=xR I.ax e;exact dd.typeIs
 .let(_,_,xs,_,dd):=xT I.ax e;exact dd.typeIs
def RB(td m:TE):TE:=λσ H Q=>td σ H λx H1=>m σ H1 λy j=>∃a v,x=.ref a/\jY j a y Ãt/\Q v j
def acr(m td:TE):TE:=λσ H Q=>m σ H λy H1=>td σ H1 λx j=>∃a o,x=.ref a/\jY j a y o/\Q (.bl (!o.isSome)) j
def acs(td G F:TE):TS:=λD σ H=>F σ H λv H1=>td σ H1 λx m=>G σ m λy z=>∃a j,x=.ref a/\xU z a y v j/\D.nx σ j
section
def RC(M:X.A.units+1<cLine)(J:PE X o td)(hi:PE X i ty)(hs:RA i):PE X (.Subscript o i pos) (RB td ty):=by
 show Ò;apply acp PySem.F.slot_dict_getitem.lookup hs (aN (J pins s σ H _ I h) λu Z ⟨x,H1,z,W,S⟩=>aN (hi pins Z σ H1 _ z S) λiv s2 ⟨y,m,j,Y,a,v,ex,g,U⟩=>?_);subst ex;obtain rfl:u=Value.ref a:=W;exact(acq j g,acm M j g Y λw' s3 G O=>⟨v,m,G,O,U⟩)
def acu(J:X.A.units+1<cLine)(hi:PE X i ty)(G:PE X o td):PC X .NotIn i o (acr ty td):=by
 show Ò;apply aN (hi pins s σ H _ I h) λiv Y ⟨y,H1,m,W,M⟩=>aN (G pins Y σ H1 _ m M) λu Z ⟨x,j,z,U,a,O,ex,g,S⟩=>?_;subst ex;obtain rfl:u=Value.ref a:=U;exact acn J z g W λs3 F=>⟨.bl (!O.isSome),j,F,Á,S⟩
def Jr(O:X.A.units+1<cLine)(M:PE X o td)(hi:PE X i ty)(S:PE X jl tv)(hs:swapsWith jl (some (.Subscript o i jU)) pos.line X.env=pure false):
  PS X (.Assign [.Subscript o i jU] jl pos) (acs td ty tv):=by
 intro pins s σ H D I h;apply wpAny_Assign_Subscript (aN (S pins s σ H _ I h) λr s1 ⟨v,H1,z,Z,U⟩=>aN (M pins s1 σ H1 _ z U) λu s2 ⟨x,j,F,rx,W⟩=>aN (hi pins s2 σ j _ F W) λiv s3 ⟨y,H3,G,ry,a,m,ex,g,Y⟩=>?_) hs;subst ex;obtain rfl:u=Value.ref a:=rx;exact aco O G g ry Z λs4 J=>⟨σ,m,J,Y⟩
end
def acv{P:Pg}{w:Wd}{H:Hp}(h:Heap)(j:sysModules<h.objs.size):fJ P w H (h.push {cls:=.type "dict",data:=.dict #[]}) h.objs.size Àv:=
 ⟨dv _,xn.mpr (d8 (ft j)),[],.nil,YW h⟩
def acw:TE:=λ_ H Q=>∀p,H p=none->Q ĥ (upd H p Àv)
section
def Ey:PE X (.Dict [] [] pos) acw:=λpins s σ H Q I h=>
 wpAny_Dict_empty ⟨.ref s.heap.objs.size,_,I.laid (a:=s.heap.objs.size) (o:=.dK []) (t':=s.toks) (λ_ _ q=>dq _ q) (bU _) (acv s.heap I.big),rfl,h _ ī⟩
end
def uP(kvs j:List (Key×V)):List (Key×V):=j.foldl (λacc kv=>putK acc kv.1 kv.2) kvs
theorem KV.merge:∀{j:List (Key×V)}{rs:List (Key×Value)}{kvs:List (Key×V)}{vs:List (Key×Value)},KV j rs->KV kvs vs->KV (uP kvs j) (merged vs rs):=by
 intro j rs kvs vs r;delta KV at r;induction r generalizing kvs vs with
 |nil=>intro q;exact q
 | @cons p q ps qs h t ih=>
  intro m;let e:KV (putK kvs p.1 p.2) (stored vs q.1 q.2):=by
   let:=m.put p.1 h.2;symm
  exact ih e
theorem acx:∀(j kvs:List (Key×V)),(uP kvs j).length<=kvs.length+j.length:=by
 intro j;induction j with
 |nil=>
  intro kvs;show kvs.length<=kvs.length+0;omega
 |cons p r I=>
  intro kvs;let m:=I (putK kvs p.1 p.2);let h2:=BA kvs p.1 p.2;show(uP (putK kvs p.1 p.2) r).length<=_;rw[dc];omega
structure M1(X:Cx)(o:Expr)(m:Str)(i5:Pos)(e:Expr)(gf:Pos):Prop where
 base:attributeBase o m X.env Ät=eval o X.env
 dg:((backTo gf (starEach [e] X.env)).all (λx=>!x.1)&&(backToKw gf ϶).all (λx=>x.1.isSome)
  &&decide (([e]:List Expr).length+([]:List Keyword).length+(if ([]:List Keyword).isEmpty then 0 else 1)<30))=true
 line:(i5.endLine==gf.line)=true
 trees:backTo gf (starEach [e] X.env)=[(false,eval e X.env)]
structure M2(X:Cx)(o:Expr)(m:Str)(i5:Pos)(e f:Expr)(gf:Pos):Prop where
 base:attributeBase o m X.env Ät=eval o X.env
 dg:((backTo gf (starEach [e,f] X.env)).all (λx=>!x.1)&&(backToKw gf ϶).all (λx=>x.1.isSome)
  &&decide (([e,f]:List Expr).length+([]:List Keyword).length+(if ([]:List Keyword).isEmpty then 0 else 1)<30))=true
 line:(i5.endLine==gf.line)=true
 trees:backTo gf (starEach [e,f] X.env)=[(false,eval e X.env),(false,eval f X.env)]
def Ez(H:Hp)(a:Addr):Prop:=(∃kvs,Rd H a ē)\/∃kvs,Rd H a Ãj
def Js(I:Ã H s)(d:Ez H a):
  s.TypeIs Ğ "dict"/\(∀b,Value.ref a=.ref b->∃O,s.heap.get? b=some O/\O.dict=none)/\(a==sysModules)=false:=by
 rcases d with ⟨kvs,e⟩|⟨kvs,e⟩
 .let(_,hd,vs,_,dd):=xR I.ax e;apply(dd.typeIs,λb q=>?_,hd);cases q;let(O,_,_,j,h2,_):=dd;exact(O,j,h2.2.1)
 .let(_,hd,xs,_,dd):=xT I.ax e;apply(dd.typeIs,λb q=>?_,hd);cases q;let(O,_,_,j,h2,_):=dd;exact(O,j,h2.2.1)
section
variable{X:Cx}{pins:bJ}{σ:St}{H:Hp}{s:Sh}{a:Addr}{y d:V}{u r:Value}{o:Option V}{A:Around}{E:VP}
def acy(M:A.units+1<cLine)(I:Ã H s)(g:jY H a y o)(G:RelV y u)(h:∀W s',Ã H s'->RelV (o.getD .aL) W->Q W s'):
  wpAny È A (call (.builtin "dict.get") [.ref a,u]) Q E s:=by
 rcases g with ⟨kvs,k,e,j,l⟩|⟨kvs,k,b,e,j,J,l⟩
 .subst j;let(z,hd,vs,m,dd):=xR I.ax e;apply DR PySem.F.slot_dict_get dd.typeIs PySem.F.entry_dict_get (PySem.F.args_dict_get_2 _ _) (meets_dict_get Ć a (vW G) hd) ⟨_,dd.mapOf,h _ _ (I.tok _) ?_⟩;rw[l];exact(m.val k).getD Á
 .subst j;cases (show u=Value.ref b from G);let(z,hd,xs,m,dd):=xT I.ax e;apply DR PySem.F.slot_dict_get dd.typeIs PySem.F.entry_dict_get (PySem.F.args_dict_get_2 _ _) (meetsH_dict_get Èo a b hd) ⟨DQ M,k,xs,xS I.ax J,dd,h _ _ (I.tok _) ?_⟩;rw[l];exact(m.val k).getD Á
def acz(O:A.units+1<cLine)(I:Ã H s)(g:jY H a y o)(J:RelV y u)(G:RelV d r)(h:∀W s',Ã H s'->RelV (o.getD d) W->Q W s'):
  wpAny È A (call (.builtin "dict.get") [.ref a,u,r]) Q E s:=by
 rcases g with ⟨kvs,k,e,j,l⟩|⟨kvs,k,b,e,j,M,l⟩
 .subst j;let(z,hd,vs,m,dd):=xR I.ax e;apply DR PySem.F.slot_dict_get dd.typeIs PySem.F.entry_dict_get (PySem.F.args_dict_get_3 _ _ _) (meets_dict_get_default Ć a (vW J) hd r) ⟨_,dd.mapOf,h _ _ (I.tok _) ?_⟩;rw[l];exact(m.val k).getD G
 .subst j;cases (show u=Value.ref b from J);let(z,hd,xs,m,dd):=xT I.ax e;apply DR PySem.F.slot_dict_get dd.typeIs PySem.F.entry_dict_get (PySem.F.args_dict_get_3 _ _ _) (meetsH_dict_get_default Èo a b hd r) ⟨DQ O,k,xs,xS I.ax M,dd,h _ _ (I.tok _) ?_⟩;rw[l];exact(m.val k).getD G
end
def RD(td m:TE):TE:=λσ H Q=>td σ H λx H1=>∃a,x=.ref a/\Ez H1 a/\m σ H1 λy j=>∃o,jY j a y o/\Q (o.getD .aL) j
def acA(td G F:TE):TE:=λσ H Q=>td σ H λx H1=>∃a,x=.ref a/\Ez H1 a/\G σ H1 λy m=>F σ m λz j=>∃o,jY j a y o/\Q (o.getD z) j
section
def acB(S:X.A.units+1<cLine)(O:PE X o td)(M:Ϣ ty)(m:M1 X o "get" i5 e gf):PE X (.Call (.Attribute o "get" i5) [e] [] gf) (RD td ty):=by
 show Ò;apply HR m.base m.dg m.line PySem.F.plainAttrs_dict PySem.F.slot_dict_get PySem.F.type_dict_get (aN (O pins s σ H _ I h) λu s1 ⟨x,H1,j,Z,a,ex,d,W⟩=>?_);subst ex;obtain rfl:u=Value.ref a:=Z;let(t1,t2,_):=Js j d;refine Èi;rw[m.trees];apply HM Á (Pz (DL (aN (M pins s1 σ H1 _ j W) λiv s2 ⟨y,z,G,ry,ov,g,Y⟩=>Pu ?_)));exact acy S G g ry λw' s3 J U=>⟨_,z,J,U,Y⟩
def acC(Z:X.A.units+1<cLine)(Y:PE X o td)(U:Ϣ ty)(W:PE X f tx)(m:M2 X o "get" i5 e f gf):PE X (.Call (.Attribute o "get" i5) [e,f] [] gf) (acA td ty tx):=by
 show Ò;apply HR m.base m.dg m.line PySem.F.plainAttrs_dict PySem.F.slot_dict_get PySem.F.type_dict_get (aN (Y pins s σ H _ I h) λu s1 ⟨x,H1,j,rx,a,ex,d,q1⟩=>?_);subst ex;obtain rfl:u=Value.ref a:=rx;let(t1,t2,_):=Js j d;refine Èi;rw[m.trees];refine HM Á (Pz (DL (aN (U pins s1 σ H1 _ j q1) λiv s2 ⟨y,G,M,ry,q2⟩=>
  DL (aN (W pins s2 σ G _ M q2) λfv s3 ⟨z,J,O,rz,ov,g,q3⟩=>Pu ?_))))
 exact acz Z O g ry rz λw' s4 S jc=>⟨_,J,S,jc,q3⟩
end
section
variable{X:Cx}{pins:bJ}{σ:St}{H:Hp}{s:Sh}{a:Addr}{kvs:List (Key×V)}{A:Around}{E:VP}
end
section
variable{X:Cx}{pins:bJ}{σ:St}{H:Hp}{s:Sh}{a:Addr}{y:V}{u:Value}{A:Around}{E:VP}
end
def acD:typeLookup (.type "list") "keys"=pure none:=am_miss_of_fast (by first|decide+kernel|rfl)
def RE:entryFor table "dict.update.loop"=some Builtin.«dict.update.loop»:=entryFor_of_tree (by kernel_rfl)
def BB:plainId "dict.update.loop"=true:=by decide+kernel
section
def acE{s:Sh}{a:Addr}{o:Obj}{xs:Array Value}{k:Nat}{Q:Option Value->Shared->Prop}(I:s.heap.get? a=some o)(hc:o.cls=.type "list")(U:o.data=.seq xs k)(hd:o.dict=none)(S:A.handled=none)(h:∀h' tk,(∀b O,s.heap.get? b=some O->h'.get? b=some O)->Q none {s with heap:=h',toks:=tk}):wpAny Ó A (getAttr? Ğ "keys") Q E s:=by
 let(c,yW,M,sl):=o;simp only at hc U hd;subst hc U hd;let(W,g,d,tk,os):=s;let G:∀J,(⟨W,g,d,J,os⟩:Sh).TypeIs Ğ "list":=λ_=>⟨_,I,rfl⟩;let j:=acD;let m:(["__module__","__name__","__qualname__","__doc__","__annotations__"]:LS).contains "keys"=false:=by decide+kernel
 let hsz:("keys":Str).length+100<=sizeLine:=by first|size_fits|decide+kernel
 let Y:=sub_AttributeError;let Z:=PySem.F.slot_list_getattribute.lookup;let f4:=PySem.F.slot_list_getattribute.bind Ğ;let f5:=am_list_getattr_none;delta getAttr? getAttrBy? getAttrBy
 repeat (any_goals (first|assumption|exact G _|((with_reducible show wpAny _ _ (call (Value.builtin "list.__getattribute__") _ _) _ _ _);apply HN PySem.F.slot_list_getattribute (G _) am_entry_list_getattribute (PySem.F.args_list_getattribute_2 _ _) (meets_getattribute_miss_list a xs k sl "keys" _ j m hsz) ⟨I,S,λh' J e z=>?_⟩)|wp_step))
 let(t',u',he):=z.there;show wpAny _ _ (getattributeRaised _ _ _ _ _ _ _) _ _ _;delta getattributeRaised
 repeat (any_goals (first|assumption|wp_step))
 all_goals first|exact h _ _ z.keeps|(dsimp only;repeat (any_goals (first|assumption|exact h _ _ z.keeps|wp_step)))
theorem acH{α:Type}{R:Result->Shared->Prop}{S I l:Addr}{items:Array Value}{res:Value}{DD:Heap->List α->Prop}{G:Heap->α->Value->Value->Prop}{st:List α->α->List α}(hh:A.handled=none)(hlI:l≠I)(F:S<I)(hSl:S≠l)(dk:∀h h' acc,DD h acc->(∀b o,b<=S->h.get? b=some o->h'.get? b=some o)->DD h' acc) (gk:∀h h' q u y,G h q u y->(∀b o,b<S->h.get? b=some o->h'.get? b=some o)->G h' q u y)(ds:∀(s:Sh)acc q u y(Q:Unit->Shared->Prop)E,G s.heap q u y->DD s.heap acc->acc.length<=sizeLine->(∀h' tk,DD h' (st acc q)->Heap.SameBut S s.heap h'->Q () {s with heap:=h',toks:=tk})->wpAny Ó A.in1 (dictSet S u y) Q E s)(sl:∀acc q,(st acc q).length<=acc.length+1):
  ∀(bQ:List α)(i:Nat)(acc:List α)(ix:Int)(t:Tok)(s:Sh),items.size=i+bQ.length->acc.length+bQ.length<=sizeLine->
   (∀(j:Nat)(q:α),bQ[j]? =some q->∃(b:Addr)(u y:Value),items[i+j]? =some (.ref b)/\b<S/\IsTup s.heap b #[u,y]/\G s.heap q u y)->
   s.heap.IsListIter I l i->s.heap.IsList l items->DD s.heap acc->
   (∀h' tk,DD h' (bQ.foldl st acc)->(∀b o,b≠S->b≠I->s.heap.get? b=some o->h'.get? b=some o)->R (.ok (.ret res)) {s with heap:=h',toks:=tk})->
   codeAny Ó A (.builtin "dict.update.loop" ⟨[.ref S,.ref I,.int ix t,res],[]⟩) R s:=by
 intro bQ;induction bQ with
 |nil=>
  intro i acc ix t s hsz EA ht nk O hm hR;apply PN RE ?_;rw[PP BB _];apply aQ (wpAny_pyNext_list_end (A:=A.in1) hh nk O (by first|exact aqe (DF hsz)|(simp at hsz;simp;omega)) λh' he=>?_);exact aQ (di (di (hR h' s.toks (dk _ _ _ hm λb o m e=>he b o (ft (pP m F)) e) λb o _ m e=>he b o m e)))
 |cons q bQ ih=>
  intro i acc ix t s hsz EA ht nk O hm hR;let(b,u,y,m,hbS,W,hk):=ht 0 q rfl;rw[dc] at hsz EA;apply PN RE ?_;rw[PP BB _];apply aQ (wpAny_pyNext_list_item (x:=.ref b) nk O (À m) λh1 Y J=>?_);let k1:∀b o,b<=S->s.heap.get? b=some o->h1.get? b=some o:=λb o m e=>J.extBut b o (ft (pP m F)) e;let(o,ho,hc,n,hd):=W.extBut J.extBut (ft (HQ hbS F));apply aQ (YB ?_);apply aQ (wpAny_tryCatch ?_);delta Builtin.Dict.pairItems;apply aQ (wpAny_typeOf (T:="tuple") ⟨o,ho,hc⟩ ?_);rw[af (by first|decide|rfl|simp)];apply aQ (YD ho hd (di ?_));apply YB (ds _ _ _ _ _ _ _ (gk _ _ _ _ _ hk λb o m e=>k1 b o (pN m) e) (dk _ _ _ hm k1) Å λh2 tk2 EB M=>?_);let z:=sl acc q;refine di ⟨HS BB _,ih (i+1) (st acc q) (ix+1) 0 _ (show items.size=i+1+bQ.length by omega) Å Èj (Y.at λo' e=>M.extBut I o' (uq F) e) ((O.extBut J.extBut hlI).extBut M.extBut (d8 hSl)) EB λh' tk pX k=>hR h' tk pX λc oc h3 h4 e=>k c oc h3 h4 (M.extBut c oc h3 (J.extBut c oc h4 e))⟩;let(b',u',y',nP,U,Z,lj):=ht (j+1) q' (À e);exact(b',u',y',by rw[show i+1+j=i+(j+1) by omega];exact nP,U,(Z.extBut J.extBut (ft (HQ U F))).extBut M.extBut (ft U),gk _ _ _ _ _ lj λb o m e=>M.extBut b o (ft m) (k1 b o (pN m) e))
def RF{s:Sh}{l:Addr}{O:Obj}{items:Array Value}{n:Nat}{α:Type}{prs:List α}{Q:VP}{DD:Heap->List α->Prop}{G:Heap->α->Value->Value->Prop}{st:List α->α->List α}(hh:A.handled=none)(U:s.heap.get? l=some O)(hc:O.cls=.type "list")(hd:O.dict=none)(uQ:O.data=.seq items n) (hsz:items.size=prs.length) (EA:prs.length<=sizeLine)(d0:DD (s.heap.push {cls:=.type "dict",data:=.dict #[]}) [])(dk:∀h h' acc,DD h acc->(∀b o,b<=s.heap.objs.size->h.get? b=some o->h'.get? b=some o)->DD h' acc) (gk:∀h h' q u y,G h q u y->(∀b o,b<s.heap.objs.size->h.get? b=some o->h'.get? b=some o)->G h' q u y)(ds:∀(J:Sh)acc q u y(Q:Unit->Shared->Prop)E,G J.heap q u y->DD J.heap acc->acc.length<=sizeLine->(∀h' tk,DD h' (st acc q)->Heap.SameBut s.heap.objs.size J.heap h'->Q () {J with heap:=h',toks:=tk})->wpAny Ó A.in1.in1 (dictSet s.heap.objs.size u y) Q E J)(sl:∀acc q,(st acc q).length<=acc.length+1)(ht:∀(j:Nat)(q:α),prs[j]? =some q->∃(b:Addr)(u y:Value),items[j]? =some (.ref b)/\IsTup s.heap b #[u,y]/\G s.heap q u y)(h:∀h' tk,DD h' (prs.foldl st [])->(∀b o,s.heap.get? b=some o->h'.get? b=some o)->Q Ĺ {s with heap:=h',toks:=tk}):
  wpAny Ó A (call (.type "dict") [.ref l]) Q E s:=by
 apply callType_codes (Q₁:=λobj s₁=>obj=.ref s.heap.objs.size/\s₁={s with heap:=s.heap.push {cls:=.type "dict",data:=.dict #[]}}) PySem.F.kt_called_dict (PySem.F.kt_typeCall_dict_1 _) PySem.F.entry_dict_init (kt_code_dict_new _ ⟨Á,Á⟩) ?_;rintro obj s₁ ⟨rfl,rfl⟩;let RG:(s.heap.push {cls:=.type "dict",data:=.dict #[]}).DictOf Åf s.heap.objs.size []:=YW s.heap;let k0:∀b o,s.heap.get? b=some o->(s.heap.push {cls:=.type "dict",data:=.dict #[]}).get? b=some o:=λb o e=>dq _ e;apply(RG.typeIs,PySem.F.args_dict_init_2 _ _,?_);delta Builtin.«dict.__init__»;apply aQ ?_;delta Builtin.Dict.selfAndRest;apply aQ (wpAny_notOrdered_dict RG.typeIs ?_);show wpAny _ _ (pure (s.heap.objs.size,[Value.ref l])) _ _ _;apply di ?_;show wpAny _ _ (Builtin.Dict.updateFrom "dict.__init__" s.heap.objs.size Åi [] .none) _ _ _;delta Builtin.Dict.updateFrom;apply aQ (wpAny_typeOf (T:="list") ⟨O,k0 _ _ U,hc⟩ ?_);rw[af Ô];apply aQ (acE (k0 _ _ U) hc uQ hd hh λm tk1 M=>?_);rw[af (show(none:Option Value).isNone=true from rfl)];apply aQ (wpAny_rule ?_);let fc:m.IsList l items:=⟨O,M _ _ (k0 _ _ U),hc,n,uQ⟩;let W:s.heap.objs.size<m.objs.size:=by
  let e:(s.heap.push {cls:=.type "dict",data:=.dict #[]}).get? s.heap.objs.size=some {cls:=.type "dict",data:=.dict #[]}:=iq _ rfl;exact c9 (M _ _ e)
 apply aQ (YL fc ?_);let k2:∀b o,m.get? b=some o->(m.push {cls:=.type "list_iterator",data:=.fields #[.ref l,.int 0 0]}).get? b=some o:=λb o e=>dq _ e;let bW:l<s.heap.objs.size:=c9 U;let Y:=HQ bW W;let Z:∀b o,s.heap.get? b=some o->(m.push {cls:=.type "list_iterator",data:=.fields #[.ref l,.int 0 0]}).get? b=some o:=λb o e=>k2 _ _ (M _ _ (k0 _ _ e));let gW:=acH (prog:=prog) (w:=w) (A:=A.in1) (R:=wants (λr s₂=>r=.none/\Q Ĺ s₂) E) (S:=s.heap.objs.size) (I:=m.objs.size) (l:=l) (items:=items) (res:=Value.none) hh
  (ft Y) W (uq bW) dk gk ds sl prs 0 [] 0 0
  {s with heap:=m.push {cls:=.type "list_iterator",data:=.fields #[.ref l,.int 0 0]},toks:=tk1} (by rw[hsz,xq]) (by rw[sk,xq];exact EA)
  (λj q e=>by
   let(b,u,y,e1,e2,e3):=ht j q e;exact(b,u,y,by rw[xq];exact e1,e2.lt,e2.keeps λc o z=>Z _ _ z,gk _ _ _ _ _ e3 λc o _ z=>Z _ _ z))
  ⟨_,iq _ rfl,rfl,rfl⟩ (fc.at λo e=>k2 _ _ e) (dk _ _ _ d0 λb o _ e=>k2 _ _ (M _ _ e))
  (λh' tk pX k=>⟨rfl,h h' tk pX λb o e=>k b o Èb (ft (HQ (c9 e) W)) (Z _ _ e)⟩)
 first
  |exact di ⟨HS BB _,gW⟩
  |exact aQ (di (di ⟨HS BB _,gW⟩))
end
section
def acQ{pins:bJ}{σ:St}{H:Hp}{s:Sh}(I:Ã H s):∀{ps:LA}{kvs:List (Key×V)},Paired (λp kv=>bw X.K H p [kV kv.1,kv.2]) ps kvs->
  ∃prs:List (Key×Value),KV kvs prs/\prs.length=ps.length/\∀(j:Nat)(q:Key×Value),prs[j]? =some q->∃(b:Addr)(u:Value),ps[j]? =some b/\IsTup s.heap b #[u,q.2]/\sA q.1 u=true:=by
 intro ps kvs M;induction M with
 |nil=>exact([],.nil,Á,λj q e=>by simp at e)
 | @cons p kv ps kvs h t ih=>
  let(prs,r,O,S):=ih;let(aj,Y,U,_):=I.tuple h;let(u,y,J,W,Z):=vals2 Y;subst J;apply((kv.1,y)::prs,.cons ⟨Á,Z⟩ r,by rw[dc,dc,O],λj q e=>?_);cases j with
  |zero=>
   let m:(kv.1,y)=q:=aI e;subst m;exact(p,u,Á,U,vW (P:=X.prog) (w:=X.w) W)
  |succ j=>
   let(b,u',z,F,G):=S j q (À e);exact(b,u',À z,F,G)
theorem RH{ps:LA}:∀{U:LV},bh Âe U->U=ps.map Value.ref:=by
 induction ps with
 |nil=>
  intro U r;rw[lK] at r;cases r;rfl
 |cons p ps I=>
  intro U r;rw[aX] at r;cases r with
  |cons h t=>
   cases h;rw[aX,<-I t]
def acR(J:X.calm=true):lS X (.type "dict") (λxs H Q=>∃(a:Addr)(ps:LA)(kvs:List (Key×V)),xs=[.ref a]/\Àz a Âe/\Paired (λp kv=>bw X.K H p [kV kv.1,kv.2]) ps kvs/\
  ∀p,H p=none->Q ĥ (upd H p Æa)):=by
 intro pins s σ H xs us Q I r q;let(a,ps,kvs,ex,hq,hp,q):=q;subst ex;let(u,W,rx):=vals1 r;subst W;cases rx;let(aj,rv,pl,m):=I.list hq;let U:=RH rv;subst U;rw[az] at m;let(prs,F,z,Y):=acQ I hp;let(o,n,ho,hc,hd,uQ):=pl;apply RF (prs:=prs) (DD:=λh=>h.DictOf Ć s.heap.objs.size) (G:=λ_ q u y=>y=q.2/\sA q.1 u=true) (st:=λa q=>stored a q.1 q.2) (I.ok.hd J) ho hc hd uQ (by simp[z]) Å (YW s.heap) (λ_ _ _ d k=>d.at λo e=>k _ o (bU _) e) (λ_ _ _ _ _ g _=>g) (λ_ _ _ _ _ _ _ g d m k=>g.1▸ wpAny_dictSet_pairs (knd:=fb X.prog X.w) g.2 d (λh'=>k h' _) m) (λa q=>stored_length_le a q.1 q.2) Èj λh' tk pX k=>?_
 .let(b,u,e1,O,S):=Y j q' e;exact(b,u,_,by simp_all,O,rfl,S)
 .let Z:(s.heap.objs.size==sysModules)=false:=xn.mpr (uq I.big);let M:(uP [] kvs).length<=sizeLine:=by
   apply ia (acx kvs []) ?_;rw[sk,xq,F.length,z];omega
  exact(.ref s.heap.objs.size,ğ Æa,I.laid (t':=tk) k (bU _) (show fJ X.prog X.w _ _ _ Æa from⟨M,Z,merged [] prs,KV.merge F .nil,pX⟩),Á,q _ ī)
end
section
variable{X:Cx}{pins:bJ}{σ:St}{H:Hp}{s:Sh}{h':Heap}
def Inv.acS{t':Nat}{ch:LA}(I:Ã H s)(k:∀b o,b∉ch->s.heap.get? b=some o->h'.get? b=some o)(j:∀b∈ch,Ł H b):Ã H {s with heap:=h',toks:=t'}:=by
 let G:∀b u,H b=some u->b∉ch:=λb u e z=>by
  let q:=(j b z).1;symm
 refine I.step (g':=s.gens) (d':=s.drawn) (ch:=ch) (λb F=>⟨(j b F).2.2.2.1,(j b F).2.1,(j b F).2.2.2.2.1,(j b F).2.2.2.2.2⟩) (λb o _ _ hc e _=>k b o hc e) (λb o _ _ hc e _=>⟨o.slots,k b o hc e⟩)
  (λ_ _ _ _ n=>n) (λb o hc e=>⟨o,k b o hc e⟩) (λ_ _ e=>e) (λ_ _ _ e=>e) (λb ps e=>⟨#[],by rw[e];simp⟩) Æi (λb u e=>?_) I.bare
 .let(o,es,ep,J,r):=hm;exact(o,es,ep,k _ o (λz=>(j _ z).2.1 Á) J,r)
 .refine(I.ax b u e).nB Âa (λ_ q=>q) λ_ _ q=>q;rcases hc with z|z
  .rw[z];exact G b u e
  .exact G c _ z
def Inv.acT{t':Nat}{ch:LA}{T:Addr}{O:HO}(I:Ã H s)(k:∀b o,b∉ch->s.heap.get? b=some o->h'.get? b=some o)(F:∀b∈ch,Ł H b)(G:s.heap.objs.size<=T)(new:Àc (Ϡ O) h' T O):Ã (Ϡ O) {s with heap:=h',toks:=t'}:=by
 let hn:H T=none:=I.ax.fresh G;let J:∀b u,H b=some u->b∉ch:=λb u e z=>by
  let q:=(F b z).1;symm
 refine I.step (g':=s.gens) (d':=s.drawn) (ch:=ch) (λb j=>⟨(F b j).2.2.2.1,(F b j).2.1,(F b j).2.2.2.2.1,(F b j).2.2.2.2.2⟩) (λb o _ _ hc e _=>k b o hc e) (λb o _ _ hc e _=>⟨o.slots,k b o hc e⟩)
  (λb o _ e n=>?_) (λb o hc e=>⟨o,k b o hc e⟩) (λb xs e=>?_) (λb o u e=>?_) (λb ps e=>⟨#[],?_⟩) Æi (λb u e=>?_) I.bare
 .rw[aq (ft (iB (c9 e) G))];exact n
 .rw[aq (eQ e hn)];exact e
 .rw[aq (eQ e hn)];exact e
 .rw[aq (eQ e hn),e];simp
 .let(o,es,ep,M,r):=hm;exact(o,es,ep,k _ o (λz=>(F _ z).2.1 Á) M,r)
 .by_cases j:b=T
  .subst j;rw[ao] at e;cases e;exact new
  .rw[aq j] at e;refine(I.ax b u e).nB Âa (λc q=>by rw[aq Äv];exact q) λc xs q=>by rw[aq Äv];exact q
   rcases hc with z|z
   .rw[z];exact J b u e
   .exact J c _ z
def Inv.lock(I:Ã H s)(h:H d=some u)(m:uD Âu):∃od,Ã Æm s:=by
 let x:=I.ax d u h;let ex:∃od,s.heap.get? d=some od:=by
  cases u with
  |lst xs=>let(_,_,_,_,e):=x;exact(_,e)
  |dK kvs=>let(_,_,_,_,o,_,_,e,_):=x;exact(o,e)
  |dT kvs=>let(_,_,_,_,o,_,_,e,_):=x;exact(o,e)
  |set S n=>let(o,_,_,_,e,_):=x;exact(o,e)
  |ins C dx fs=>let(_,_,_,e,_):=x;exact(_,e)
  |ext φ=>let(_,(_,e),_):=x;exact(_,e)
  |_=>exact False.elim m
 let(od,e):=ex;let new:Àc Æm s.heap d ϑ:=by
  apply(e,x.nB Äe (λb q=>?_) λb xs q=>?_)
  .rw[aq (λz=>by rw[z,h] at q;cases q;exact m)];exact q
  .rw[aq (λz=>by rw[z,h] at q;cases q;exact m)];exact q
 exact(od,I.write (x:=d) (e:=d) (t':=s.toks) (h':=s.heap) É ę Äe ⟨od,e⟩ new)
def Inv.BE(I:Ã H s)(h:H d=some u)(m:uD Âu):∀O U,X.qV d≠some (.cz O U):=λO U e=>by
 let q:=I.base.nE d O U e;rw[h] at q;cases q;exact m
def Inv.unlock(I:Ã H s)(h:H d=some ϑ)(J:∀O U,X.qV d≠some (.cz O U)):Ã (upd H d u) s:=by
 let Z:∀b o,H b=some o->(∀O U,o≠ .cz O U)->b≠d:=λb o e G z=>by
  grind
 let neN:∀b,H b=none->b≠d:=λb e z=>by rw[z,h] at e;cases e
 apply(I.ok,I.os,I.bare,⟨I.base.keep,I.base.slot,λb o e n hx=>?_,I.base.there,λb xs e=>?_,λb o x e=>?_,λb ps e=>?_⟩,I.loc,I.cell,?_,λx c e=>?_,λp F=>?_,λb o e=>?_,I.len)
 .rw[aq (neN b ϩ)];exact I.base.free b o e n hx
 .let q:=I.base.pR b xs e;rw[aq (Z b _ q (λ_ _ z=>nomatch z))];exact q
 .let q:=I.base.nE b o x e;rw[aq (λz=>by simp_all)];exact q
 .let(m,q):=I.base.pU b ps e;exact(m,by rw[aq (Z b _ q (λ_ _ z=>nomatch z))];exact q)
 .rw[aq (neN _ I.free)];exact I.free
 .rw[aq (neN c Çj)];exact I.k8 x c e
 .let(e,n,r):=I.pin p F;exact(e,by rw[aq (neN _ n)];exact n,r)
 .by_cases j:b=d
  .rw[j,ao] at e;cases e;rw[j];let(_,x):=I.ax d _ h;exact x.nB (λc v _ q=>q) (λc q=>by rw[aq (Z c _ q (λ_ _ z=>nomatch z))];exact q) λc xs q=>by rw[aq (Z c _ q (λ_ _ z=>nomatch z))];exact q
  .rw[aq j] at e;exact(I.ax b o e).nB (λc v _ q=>q) (λc q=>by rw[aq (Z c _ q (λ_ _ z=>nomatch z))];exact q) λc xs q=>by rw[aq (Z c _ q (λ_ _ z=>nomatch z))];exact q
end
def acU(t:TS):TS:=λD σ H=>∃d u,H d=some u/\uD Âu/\∀od,t ⟨λσ' H'=>H' d=some ϑ/\D.nx σ' Ãr,λv H'=>H' d=some ϑ/\D.rt v Ãr,λσ' H'=>H' d=some ϑ/\D.bk σ' Ãr,λσ' H'=>H' d=some ϑ/\D.ct σ' Ãr⟩ σ Æm
def acV(t:TE):TE:=λσ H Q=>∃d u,H d=some u/\uD Âu/\∀od,t σ Æm λv H'=>H' d=some ϑ/\Q v Ãr
section
def RI{st:Stmt}{t:TS}(h:PS X st t):PS X st (acU t):=by
 intro pins s σ H D I m;let(d,u,hd,mu,m):=m;let(od,z):=I.lock hd mu;apply aN (h pins s σ _ _ z (m od)) λf S q=>?_;cases f with
 |next=>let(σ',H',j,e,q):=q;exact(σ',_,j.unlock e Äa,q)
 |brk=>let(σ',H',j,e,q):=q;exact(σ',_,j.unlock e Äa,q)
 |cont=>let(σ',H',j,e,q):=q;exact(σ',_,j.unlock e Äa,q)
 |ret v=>let(x,σ',H',j,r,e,q):=q;exact(x,σ',_,j.unlock e Äa,r,q)
def acW(h:Ϣ t):Ϣ (acV t):=by
 intro pins s σ H Q I j;let(d,u,hd,mu,j):=j;let(od,m):=I.lock hd mu;apply aN (h pins s σ _ _ m (j od)) λv S ⟨x,H1,z,r,F,q⟩=>?_;exact(x,_,z.unlock F Äa,r,q)
def ED{tg:Expr}{pins:bJ}{σ:St}{H:Hp}{s:Sh}{R:It->Hp->Prop}{J:It}{tn:Nat->Heap->Prop}{tk:Nat}(I:Ã H s)(o:Obj)(T:Turn X.prog X.w X.K tg J [s.heap.objs.size] s.heap.objs.size tn) (st:tn 0 (s.heap.push o)) (q:R J H):Bk X pins σ tg R Ĺ {s with heap:=s.heap.push o,toks:=tk}:=by
 apply(s.heap.objs.size,[s.heap.objs.size],tn,J,H,Á,I.kept λb O e=>dq _ e,T,st,λb j=>?_,q);let e:b=s.heap.objs.size:=À j
 subst e;exact I.vM (bU _) ī
end
def BF(x:Str):It:=⟨λi _=>i<x.cps.size,λi H v H'=>H'=H/\∃c,x.cps[i]? =some c/\v=.str ⟨#[c]⟩,λi _=>x.cps.size<=i⟩
def RJ{P:Pg}{w:Wd}{K:FR}{tg:Expr}(it:Addr)(x:Str)(t:Tok)(j:String)(S:j="str_ascii_iterator"\/j="str_iterator"):
  Turn P w K tg (BF x) [it] it (λi h=>h.IsStrIter it j x t i) where
 mem:=by simp
 obj:=λi h st b hb=>by
  let e:b=it:=À hb
  subst e;let(o,e,c,d):=st;exact(o,e,λv z=>by rw[d] at z;cases z)
 keep:=λi h h' st k=>let ⟨o,ho,r⟩:=st;⟨o,k it Ä o ho,r⟩
 item:=by
  show Õ;subst hP hw hK;show ë;let W:Walks X.prog X.w X.A it [it] [it] x.cps.size (SignAt x) (λi h=>h.IsStrIter it j x t i):=by
   rcases S with e|e
   .rw[e];exact Walks.strAscii Ċ it x t
   .rw[e];exact Walks.strWide Ċ it x t
  let F:["enumerate","zip","dict_itemiterator","dict_reverseitemiterator","odict_iterator","itertools.zip_longest","itertools.pairwise"].contains j=false:=by
   rcases S with e|e
   .rw[e];decide
   .rw[e];decide
  apply W.item i s _ _ hg st λv h' tk M O Y=>?_;let(c,u,U,rfl):=M;let G:Ã H {s with heap:=h',toks:=tk}:=I.turned (λb o hb e=>Y b o (À hb) e) f0 f1 f3 f4 f5;let(Z,e,J,dd):=id O;exact(_,Á,Ed (s:={s with heap:=h',toks:=tk}) e J dd F ⟨.str ⟨#[c]⟩,H,G,⟨u,Á⟩,⟨Á,c,U,Á⟩,O,λb hb=>(hf b hb).1⟩)
 done:=by
  show Õ;subst hP hw hK;show ë;let m:x.cps[i]? =none:=aqe hg;rcases S with e|e
  .rw[e] at st;exact wpAny_pyNext_ascii_end Ċ st m λh' eb=>⟨Á,I.turned (t':=s.toks) ϖ f0 f1 f3 f4 f5⟩
  .rw[e] at st;exact wpAny_pyNext_wide_end Ċ st m λh' eb=>⟨Á,I.turned (t':=s.toks) ϖ f0 f1 f3 f4 f5⟩
 self:=λA i s Q E st h=>by
  rcases S with e|e
  .rw[e] at st;exact wpAny_pyIter_striter_ascii st h
  .rw[e] at st;exact wpAny_pyIter_striter_wide st h
def acX(te:TE):TI:=λσ H R=>te σ H λv H1=>∃x,v=.str x/\R (BF x) H1
def acY{X:Cx}{tg e:Expr}{te:TE}(m:Ϣ te):PI X tg e (acX te):=by
 intro pins s σ H R I h;apply aN (m pins s σ H _ I h) λv S ⟨y,H1,j,z,x,ex,q⟩=>?_;subst ex;let(t,rfl):=z;cases ha:x.cps.all (· <128)
 .exact wpAny_pyIter_wide ha (ED (tk:=S.toks) j _ (RJ _ x t "str_iterator" Èz) ⟨_,iq _ Á,Á,Á⟩ q)
 .exact wpAny_pyIter_ascii ha (ED (tk:=S.toks) j _ (RJ _ x t "str_ascii_iterator" ę) ⟨_,iq _ Á,Á,Á⟩ q)
theorem RK{κ:Type}{kvs:List (κ×V)}{vs:List (κ×Value)}(h:KV kvs vs):∀{i:Nat}{k:κ}{v:V},kvs[i]? =some (k,v)->∃u,vs[i]? =some (k,u)/\RelV v u:=by
 delta KV at h;induction h with
 |nil=>intro i k v e;simp at e
 | @cons a b l₁ l₂ r t ih=>
  intro i k v e;cases i with
  |zero=>
   simp only[aqg,Option.some.injEq] at e;subst e;apply(b.2,?_,r.2);simp only[aqg];exact cJ some (Prod.ext r.1.symm Á)
  |succ j=>
   simp only[aqh] at e⊢;exact ih e
def acZ(h:sA k u=true):RelV (kV k) u:=by
 rcases sC h with ⟨i,t,rfl,rfl⟩|⟨x,t,rfl,rfl⟩
 .exact(t,Á)
 .exact(t,Á)
section
variable{X:Cx}{pins:bJ}{σ:St}{H:Hp}{s:Sh}{d:Addr}{o:Obj}
def Inv.zo(I:Ã H s)(h:H d=some Ϫ):
  (d==sysModules)=false/\s.heap.get? d=some o/\o.ExactDict/\∃(es:Array DictEntry)(ep:Nat)(vs:List (Key×Value)),o.data=.dict es ep/\es.size=kvs.length/\KV kvs vs/\s.heap.DictAt Ć d vs ep:=by
 let(hd,z,hs,vs,kv,O,es,ep,j,m,F,r):=I.ax d _ h;rw[hd] at j;cases j;apply(hs,hd,m,es,ep,vs,F,?_,kv,o,es,hd,m,F,r);let G:=r.2.1.length;let J:kvs.length=vs.length:=Paired.length kv;symm
end
def BG(d:Addr)(o:Obj)(kvs:List (Key×V)):It:=
 ⟨λi H=>H d=some Ϫ/\i<kvs.length,λi H x H'=>H'=H/\∃k,kvs[i]? =some (k,x),λi H=>H d=some Ϫ/\kvs.length<=i⟩
def vY(d:Addr)(o:Obj)(kvs:List (Key×V)):It:=
 ⟨λi H=>H d=some Ϫ/\i<kvs.length,λi H x H'=>∃T k v,kvs[i]? =some (k,v)/\x=.ref T/\H T=none/\H'=upd H T Çv,λi H=>H d=some Ϫ/\kvs.length<=i⟩
def EE{o:Obj}{es j:Array DictEntry}{ep S:Nat}(h:o.data=.dict es ep)(h':o.data=.dict j S):j=es/\S=ep:=by
 symm
section
variable{P:Pg}{w:Wd}{K:FR}{tg:Expr}{d:Addr}{o:Obj}{es:Array DictEntry}{ep:Nat}
def ac0{kvs:List (Key×V)}(it:Addr)(J:o.data=.dict es ep):Turn P w K tg (BG d o kvs) [it] it (λi h=>h.IsValIter it d i kvs.length ep) where
 mem:=by simp
 obj:=λi h st b j=>by
  let e:b=it:=À j
  subst e;let(O,e,c,dd):=st;exact(O,e,λv z=>by rw[dd] at z;cases z)
 keep:=λi h h' st k=>st.at λO e=>k it Ä O e
 item:=by
  show Õ;subst hP hw hK;let(hd,hi):=hg;show ë;let(hs,W,hx,nH,sG,vs,G,hsz,kv,F):=I.zo hd;let(rfl,rfl):=EE J G;obtain⟨⟨k,v⟩,M⟩:∃p,kvs[i]? =some p:=⟨kvs[i],cY hi⟩;let(u,hu,ru):=RK kv M;let m:kvs.length=vs.length:=Paired.length kv;rw[m] at st;apply wpAny_pyNext_values_item st F hu λh' S sb=>?_;let Y:Ã H {s with heap:=h'}:=I.turned (t':=s.toks) (λb U j e=>(sb.2 b j).trans e) f0 f1 f3 f4 f5;let(O,e,c,dd):=id S;apply(u,Á,Ed (s:={s with heap:=h'}) e c dd Ù ⟨v,H,Y,ru,⟨Á,k,M⟩,?_,λb j=>(hf b j).1⟩);show h'.IsValIter it d (i+1) kvs.length _;rw[m];exact S
 done:=by
  show Õ;subst hP hw hK;let(hd,hi):=hg;show ë;let(hs,W,hx,nH,sG,vs,G,hsz,kv,F):=I.zo hd;let(rfl,rfl):=EE J G;let m:kvs.length=vs.length:=Paired.length kv;rw[m] at st;exact wpAny_pyNext_values_end Ċ st F (xp Å) λh' Z=>⟨Á,I.turned (t':=s.toks) (λb U j e=>Z b U j e) f0 f1 f3 f4 f5⟩
 self:=λA i s Q E st h=>wpAny_pyIter_valiter st h
def EF{X:Cx}{F:LA}(st:∀b∈F,∃o,s.heap.get? b=some o/\∀v,o.data≠ .cell v)(z:∀b∈F,Ł H b){j:Heap}{t':Nat}{x y:V}{u v:Value}(k:∀b o,b∉F->s.heap.get? b=some o->j.get? b=some o)(I:Ã H s)(G:j.get? s.heap.objs.size=some {cls:=.type "tuple",data:=.seq #[u,v]}) (J:RelV x u) (M:RelV y v):Ã (ğ Çk) {s with heap:=j,toks:=t'}/\∀b∈F,(ğ Çk) b=none:=
 ⟨I.acT k z (bU _) ⟨by show 2<=sizeLine;decide,[u,v],.cons J (.cons M .nil),_,G,rfl,_,rfl⟩,λb m=>by
  let(o,e,_):=st b m;rw[aq Èb];exact(z b m).1⟩
def RL(st:∃ok O,IsItemIter h it d i n ep ok O):∀b∈[it],∃o,h.get? b=some o/\∀v,o.data≠ .cell v:=λb j=>by
 obtain rfl:b=it:=À j
 let(ok,O,e):=st;exact(_,e,λv z=>nomatch z)
def ac1{kvs:List (Key×V)}{nq:List Expr}{kk:Nat}{mx:Pos}(it:Addr)(S:o.data=.dict es ep):
  Turn P w K Ĭ (vY d o kvs) [it] it (λi h=>∃ok m,IsItemIter h it d i kvs.length ep ok m) where
 mem:=by simp
 obj:=λi h=>RL
 keep:=λi h h' st k=>let ⟨ok,m,e⟩:=st;⟨ok,m,k it Ä _ e⟩
 item:=by
  show Õ;subst hP hw hK;let(hd,hi):=hg;let(hs,Z,hx,nH,sG,vs,M,hsz,kv,J):=I.zo hd;let(rfl,rfl):=EE S M;obtain⟨⟨k,v⟩,U⟩:∃p,kvs[i]? =some p:=⟨kvs[i],cY hi⟩;let(u,hu,ru):=RK kv U;let F:kvs.length=vs.length:=Paired.length kv;let O:=RL st;let(ok,m,j):=st;rw[F] at j;let bW:it<s.heap.objs.size:=c9 j;apply wpAny_pyNext_items_item j J hu λG h' IS ho hT hz hk=>?_;apply(_,Á,wpAny_letOwnedTupleGo_items (s:={s with heap:=h'}) ho λqh BK Y=>?_);let uR:qh.get? s.heap.objs.size=some {cls:=.type "tuple",data:=.seq #[G,u]}:=(Y.2 _ (uq bW)).trans hT;let ⟨I1,n1⟩:=EF (t':=s.toks) O hf (λb O z e=>(Y.2 b (À z)).trans (hk b O (À z) e)) I uR (acZ (show sA k G=true from IS)) ru;exact(.ref s.heap.objs.size,_,I1,Á,⟨_,k,v,U,Á,I.ax.fresh (bU _),Á⟩,⟨G,u,by rw[F];exact BK⟩,n1)
 done:=by
  show Õ;subst hP hw hK;let(hd,hi):=hg;show ë;let(hs,Z,hx,nH,sG,vs,M,hsz,kv,J):=I.zo hd;let(rfl,rfl):=EE S M;let F:kvs.length=vs.length:=Paired.length kv;let(ok,m,j):=st;rw[F] at j;exact wpAny_pyNext_items_end Ċ j J (xp Å) λh' eb=>⟨Á,I.turned (t':=s.toks) (λb O z e=>eb b O z e) f0 f1 f3 f4 f5⟩
 self:=λA i s Q E st h=>let ⟨_,_,e⟩:=st;PySem.W.kcp_self e h
end
def ac2(td:TE):TI:=λσ H R=>td σ H λx H1=>∃d o kvs,x=.ref d/\H1 d=some Ϫ/\R (BG d o kvs) H1
def ac3(td:TE):TI:=λσ H R=>td σ H λx H1=>∃d o kvs,x=.ref d/\H1 d=some Ϫ/\R (vY d o kvs) H1
section
variable{X:Cx}{tg e:Expr}{td:TE}{i5 gf:Pos}
def ac4(G:Ϣ td)(U:attributeBase e "values" X.env Ϛ=eval e X.env:=by rfl)(O:(i5.endLine==gf.line)=true:=by rfl):PI X tg (.Call (.Attribute e "values" i5) [] [] gf) (ac2 td):=by
 intro pins s σ H R I h;apply HR (T:="dict") (id:="dict.values") U Á O F.plainAttrs_dict F.slot_dict_values F.type_dict_values (aN (G pins s σ H _ I h) λu S ⟨x,H1,m,M,d,o,kvs,ex,hd,q⟩=>?_);subst ex;obtain rfl:u=Value.ref d:=M;let(hs,W,Z,es,ep,vs,J,hsz,kv,j):=m.zo hd;let Y:kvs.length=vs.length:=Paired.length kv;apply(j.dictOf.typeIs,j.dictOf.mapOf.noDict,?_);let z:Ã H1 {S with heap:=S.heap.push {cls:=.type "dict_values",data:=.fields #[.ref d]}}:=m.kept (t':=S.toks) λb ob q=>dq _ q;let fin:wpAny È X.A (pyIter (.ref S.heap.objs.size)) Åa X.xe {S with heap:=S.heap.push {cls:=.type "dict_values",data:=.fields #[.ref d]}}:=by
  apply wpAny_pyIter_values (d:=d) (knd:=fb X.prog X.w) ⟨_,iq _ Á,Á,Á⟩ (j.push _) (ED (tk:=S.toks) z _ (ac0 _ J) ⟨_,iq _ Á,Á,?_⟩ q);symm
 show wpAny _ _ (callWith gf (.builtin "dict.values") [.ref d] [] []) _ X.xe S;exact method_meetsIn F.slot_dict_values F.entry_dict_values Á (PySem.evalArgs_none ⟨Á,j.dictOf.typeIs,F.args_dict_values_1 _,_,meets_dict_values Ć d hs,⟨vs,j.dictOf⟩,fin⟩)
def RM{nq:List Expr}{kk:Nat}{mx:Pos}(G:Ϣ td)(U:attributeBase e "items" X.env Ϛ=eval e X.env:=by rfl)(W:(i5.endLine==gf.line)=true:=by rfl):
  PI X Ĭ (.Call (.Attribute e "items" i5) [] [] gf) (ac3 td):=by
 intro pins s σ H R I h;apply HR (T:="dict") (id:="dict.items") U Á W F.plainAttrs_dict F.slot_dict_items F.type_dict_items (aN (G pins s σ H _ I h) λu S ⟨x,H1,m,O,d,o,kvs,ex,hd,q⟩=>?_);subst ex;obtain rfl:u=Value.ref d:=O;let(hs,Y,Z,es,ep,vs,M,hsz,kv,j):=m.zo hd;let J:kvs.length=vs.length:=Paired.length kv;apply(j.dictOf.typeIs,j.dictOf.mapOf.noDict,?_);let z:Ã H1 {S with heap:=S.heap.push {cls:=.type "dict_items",data:=.fields #[.ref d]}}:=m.kept (t':=S.toks) λb ob q=>dq _ q;let fin:wpAny È X.A (pyIter (.ref S.heap.objs.size)) (Bk X pins σ Ĭ R) X.xe {S with heap:=S.heap.push {cls:=.type "dict_items",data:=.fields #[.ref d]}}:=by
  apply wpAny_pyIter_items (d:=d) (knd:=fb X.prog X.w) ⟨_,iq _ Á,Á,Á⟩ (j.push _) (ED (tk:=S.toks) z _ (ac1 _ M) ⟨.none,.none,?_⟩ q);rw[J];exact iq _ Á
 show wpAny _ _ (callWith gf (.builtin "dict.items") [.ref d] [] []) _ X.xe S;exact method_meetsIn F.slot_dict_items F.entry_dict_items Á (PySem.evalArgs_none ⟨Á,j.dictOf.typeIs,F.args_dict_items_1 _,_,meets_dict_items Ć d hs,⟨vs,j.dictOf⟩,fin⟩)
end
def vZ(K:FR)(a:Addr):It:=
 ⟨λi H=>∃(xs:au)(x:V),ä a xs/\xs[i]? =some x,λi H v H'=>∃T x,v=.ref T/\H T=none/\H'=upd H T (.tup [.int (i:Nat),x])/\∀xs,ä a xs->xs[i]? =some x,λi H=>∃xs:au,ä a xs/\xs.length<=i⟩
def EG{e I:Addr}{Z:Prop}(st:(∃j,IsEnum h e I c j)/\(∃o,h.get? I=some o/\o.cls=C/\o.data=.fields vs)/\Z):∀b∈[e,I],∃o,h.get? b=some o/\∀v,o.data≠ .cell v:=λb z=>by
 let((j,F),(o,G,hc,hd),_):=st;let m:b=e\/b=I:=À z
 rcases m with rfl|rfl
 .exact(_,F,λv q=>nomatch q)
 .exact(o,G,λv q=>by rw[hd] at q;cases q)
def ac5{P:Pg}{w:Wd}{K:FR}{nq:List Expr}{kk:Nat}{mx:Pos}(a e it:Addr):
  Turn P w K Ĭ (vZ K a) [e,it] e (λi h=>(∃F,IsEnum h e it ((i:Nat):Int) F)/\h.IsListIter it a i/\e≠it) where
 mem:=by simp
 obj:=λi h=>EG
 keep:=λi h h' st k=>let ⟨⟨F,j⟩,hi,aU⟩:=st;⟨⟨F,k e Ä _ j⟩,hi.at λo q=>k it Ä o q,aU⟩
 item:=by
  show Õ;subst hP hw hK;let O:=EG st;let((F,j),M,aU):=st;let(xs,x,G,J):=hg;let(aj,S,p,hz):=I.list G;let(u,hu,ru):=S.get J;let Y:e<s.heap.objs.size:=c9 j;apply wpAny_pyNext_enum_item j M p.isList (x:=u) (À hu) aU λh' ho Z hT hsz hk=>?_;apply(_,Á,aql (s:={s with heap:=h',toks:=s.toks+1}) ho λqh W U=>?_);let uR:qh.get? s.heap.objs.size=some {cls:=.type "tuple",data:=.seq #[.int i s.toks,u]}:=(U.2 _ (uq Y)).trans hT;let ⟨I1,n1⟩:=EF (x:=.int (i:Nat)) (t':=s.toks+1) O hf (λb O m q=>(U.2 b (λz=>m (by simp[z]))).trans (hk b O (λz=>m (by simp[z])) (λz=>m (by simp[z])) q)) I uR ⟨_,rfl⟩ ru;exact(.ref s.heap.objs.size,_,I1,Á,⟨_,x,Á,I.ax.fresh (bU _),Á,λys hy=>by rw[I.Bh hy G];exact J⟩,⟨⟨u,by rw[show((i+1:Nat):Int)=(i:Int)+1 by omega];exact W⟩,Z.at λo q=>(U.2 it År).trans q,aU⟩,n1)
 done:=by
  show Õ;subst hP hw hK;let((F,j),M,aU):=st;let(xs,G,J):=hg;let(aj,S,p,hz):=I.list G;show ë;let hl:=S.length;exact wpAny_pyNext_enum_end Ċ j M p.isList (by simp;omega) λh' eb=>⟨Á,I.turned (t':=s.toks) (λb o m q=>eb b o m q) f0 f1 f3 f4 f5⟩
 self:=λA i s Q E st h=>let ⟨⟨_,j⟩,_⟩:=st;PQ j h
def ac6(K:FR)(ta:TA):TI:=λσ H R=>ta σ H λvs H1=>∃a xs,vs=[.ref a]/\aa K H1 a xs/\R (vZ K a) H1
def lu(hg:Gl X "enumerate")(hm:X.mg "enumerate"=none)(z:PA X [e] ta)(hs:starEach [e] X.env=[(false,eval e X.env)]:=by rfl):
  PI X Ĭ (.Call (.Name "enumerate" p) [e] [] pos) (ac6 X.K ta):=by
 intro pins s σ H R I h;apply Call_ (Àk boot_enumerate (DK (aN (z pos pins s σ H _ I h) λus S ⟨vs,H1,I1,U,O⟩=>?_) hs Á));let(a,xs,ex,G,q):=O;subst ex;cases U with
 |cons r W=>
  cases W;cases r;let(Y,rv,M,hz):=I1.list G;apply call_enumerate_list M.isList λh' j J hsz hk=>PQ j ?_;let m:Ã H1 {S with heap:=h'}:=I1.kept (t':=S.toks) hk;apply(S.heap.objs.size+1,[S.heap.objs.size+1,S.heap.objs.size],_,_,H1,Á,m,ac5 a (S.heap.objs.size+1) S.heap.objs.size,⟨⟨.none,j⟩,J,Nat.succ_ne_self _⟩,λb F=>?_,q);let Z:b=S.heap.objs.size+1\/b=S.heap.objs.size:=À F
  let iT:S.heap.objs.size<=b:=by
   grind
  exact I1.vM iT Çi
def ac7:bootBuiltins "zip"=some (.type "zip"):=by decide+kernel
def BL(K:FR)(a b:Addr):It:=
 ⟨λi H=>∃(xs ys:au)(x y:V),ä a xs/\ä b ys/\xs[i]? =some x/\ys[i]? =some y,
  λi H v H'=>∃T x y,v=.ref T/\H T=none/\H'=upd H T Çk/\(∀xs,ä a xs->xs[i]? =some x)/\∀ys,ä b ys->ys[i]? =some y,
  λi H=>∃xs ys:au,ä a xs/\ä b ys/\(xs.length<=i\/ys.length<=i)⟩
def RN{z TI TO I j:Addr}(st:IsZip h z TI TO .none/\IsPair h TI (.ref I) (.ref j)/\(∃x y,IsPair h TO x y)/\h.IsListIter I a i/\h.IsListIter j b i):∀b∈[z,TI,TO,I,j],∃o,h.get? b=some o/\∀v,o.data≠ .cell v:=λc hc=>by
 let(O,W,(x,y,Y),(S,J,_,m),(U,M,_,F)):=st;let G:c=z\/c=TI\/c=TO\/c=I\/c=j:=À hc
 rcases G with rfl|rfl|rfl|rfl|rfl
 .exact(_,O,λv q=>nomatch q)
 .exact(_,W,λv q=>nomatch q)
 .exact(_,Y,λv q=>nomatch q)
 .exact(S,J,λv q=>by rw[m] at q;cases q)
 .exact(U,M,λv q=>by rw[F] at q;cases q)
def ac8{P:Pg}{w:Wd}{K:FR}{nq:List Expr}{kk:Nat}{mx:Pos}{a b z TI TO G J:Addr}(D:ZipApart z TI TO G J a b):
  Turn P w K Ĭ (BL K a b) [z,TI,TO,G,J] z (λi h=>IsZip h z TI TO .none/\IsPair h TI (.ref G) (.ref J)/\(∃x y,IsPair h TO x y)/\h.IsListIter G a i/\h.IsListIter J b i) where
 mem:=by simp
 obj:=λi h=>RN
 keep:=λi h h' st k=>by
  let(F,S,(x,y,U),O,h2):=st;exact(k z Ä _ F,k TI Ä _ S,⟨x,y,k TO Ä _ U⟩,O.at λo q=>k G Ä o q,h2.at λo q=>k J Ä o q)
 item:=by
  show Õ;subst hP hw hK;let ob:=RN st;let(F,S,(x0,y0,U),O,h2):=st;let(xs,ys,x,y,Z,W,hx,hy):=hg;let(aj,rv,p,_):=I.list Z;let(nQ,zr,p2,_):=I.list W;let(u,hu,ru):=rv.get hx;let(u2,Jg,Jh):=zr.get hy;let rq:z<s.heap.objs.size:=c9 F;apply wpAny_pyNext_zip_item D F S U O h2 p.isList p2.isList (x:=u) (y:=u2) (À hu) (À Jg) λh' z' Y h1' h2' hT hsz hk=>?_;apply(_,Á,wpAny_letOwnedTupleGo_zip (s:={s with heap:=h'}) z' λqh z'' M=>?_);let uR:qh.get? s.heap.objs.size=some {cls:=.type "tuple",data:=.seq #[u,u2]}:=(M.2 _ (uq rq)).trans hT;let ⟨I1,n1⟩:=EF (t':=s.toks) ob hf (λc o m q=>(M.2 c (λj=>m (by simp[j]))).trans (hk c o (λj=>m (by simp[j])) (λj=>m (by simp[j])) (λj=>m (by simp[j])) (λj=>m (by simp[j])) q)) I uR ru Jh;exact(.ref s.heap.objs.size,_,I1,Á,⟨_,x,y,Á,I.ax.fresh (bU _),Á,λl hl=>by rw[I.Bh hl Z];exact hx,λl hl=>by rw[I.Bh hl W];exact hy⟩,⟨z'',(M.2 _ D.TIz).trans (hk _ _ D.TIz D.TITO D.TIi1 D.TIi2 S),⟨u,u2,(M.2 _ D.TOz).trans Y⟩,h1'.at λo q=>(M.2 _ D.i1z).trans q,h2'.at λo q=>(M.2 _ D.i2z).trans q⟩,n1)
 done:=by
  show Õ;subst hP hw hK;let(F,S,(x0,y0,U),O,h2):=st;let(xs,ys,Z,W,adf):=hg;let(aj,rv,p,_):=I.list Z;let(nQ,zr,p2,_):=I.list W;let l1:=rv.length;let l2:=zr.length;let he:aj.toArray[i]? =none\/nQ.toArray[i]? =none:=by
   rcases adf with q|q
   .exact .inl (by simp;omega)
   .exact .inr (by simp;omega)
  exact wpAny_pyNext_zip_end Ċ D F S U O h2 p.isList p2.isList he λh' hk=>⟨Á,I.acS (t':=s.toks) (ch:=[z,TI,TO,G,J]) (λc o m q=>
   hk c o (λj=>m (by simp[j])) (λj=>m (by simp[j])) (λj=>m (by simp[j])) (λj=>m (by simp[j])) q) hf⟩
 self:=λA i s Q E st h=>wpAny_pyIter_zip st.1 h
def adg(K:FR)(ta:TA):TI:=λσ H R=>ta σ H λvs H1=>∃a b xs ys,vs=[.ref a,.ref b]/\aa K H1 a xs/\aa K H1 b ys/\R (BL K a b) H1
def RO{X:Cx}{e j:Expr}{ta:TA}{p pos mx:Pos}{nq:List Expr}{kk:Nat}(hg:Gl X "zip")(hm:X.mg "zip"=none)(O:PA X [e,j] ta)(hs:starEach [e,j] X.env=(false,eval e X.env)::starEach [j] X.env:=by rfl) (J:(backTo pos (starEach [j] X.env)).any (·.1)=false:=by rfl):
  PI X Ĭ (.Call (.Name "zip" p) [e,j] [] pos) (adg X.K ta):=by
 intro pins s σ H R I h;apply Call_ (Àk ac7 (DK (aN (O pos pins s σ H _ I h) λus S ⟨vs,H1,I1,r1,Z⟩=>?_) hs J));let(a,b,xs,ys,ex,zp,zq,q):=Z;subst ex;cases r1 with
 |cons r m=>
  cases m with
  |cons r' m=>
   cases m;cases r;cases r';let(aj,rv,F,_):=I1.list zp;let(nQ,zr,p2,_):=I1.list zq;let U:a<S.heap.objs.size:=F.lt;let Y:b<S.heap.objs.size:=p2.lt;apply call_zip_2 F.isList p2.isList λh' z sR uS M h2 hsz hk=>wpAny_pyIter_zip z ?_;let G:Ã H1 {S with heap:=h'}:=I1.kept (t':=S.toks) hk;apply(S.heap.objs.size+4,[S.heap.objs.size+4,S.heap.objs.size+2,S.heap.objs.size+3,S.heap.objs.size,S.heap.objs.size+1],_,_,H1,Á,G,ac8 (PySem.W.ktu_apart S.heap.objs.size a b U Y),⟨z,sR,⟨_,_,uS⟩,M,h2⟩,λc zt=>?_,q);let e':c=S.heap.objs.size+4\/c=S.heap.objs.size+2\/c=S.heap.objs.size+3\/c=S.heap.objs.size\/c=S.heap.objs.size+1:=À zt
   let iT:S.heap.objs.size<=c:=by
    grind
   exact I1.vM iT Çi
end L2
section
namespace Bits
open PySem PyProof.Rows
end Bits
end
section
namespace TL
open PySem PySem.Builtin PySem.Builtin.Str PySem.StrLaws
end TL
end
namespace L2
open PySem PySem.Spec PyProof.Rows
section
variable{X:Cx}{pins:bJ}{σ:St}{H:Hp}{s:Sh}{Q:VK}
end
end L2
namespace Att
open PySem PySem.W PySem.Calls PyProof.Rows
end Att
namespace L2
open PySem PySem.Spec PyProof.Rows
abbrev aE:nN:=λ_ _ _ _ _ _=>False
abbrev E0:XK:=λ_ _ _=>False
def sS:uI aE X E0:=λ_ _ _ _ _ _ _ h=>h.elim
structure bu(K:FR)(x cQ:Str)(st:Stmt)(f:Addr)(fd:FD):Prop where
 ex:∃(oc:Value)(od:OA)(kV i4 pm:Value)(an:OA)(aG ct:Value)(ny:AO),
  fd=PySem.W.fnOf x cQ (uz st) Åq Áh .none kV i4 pm an aG ct/\K.lookup f=some ⟨oc,od,.func fd,ny⟩/\PySem.W.codeIn K aG cQ=true
 kp:PySem.W.keepIn K Ă=true
section
variable{P:Pg}{w:Wd}{K:FR}{mg:MG}{base:Heap}
def bu.ok{x cQ:Str}{st:Stmt}{f:Addr}{fd:FD}{N ps:LS}{k:Nat}{sp:Sp}(F:Ák fd)(S:bO N ps Áh)(U:∀(aG:Value)(A:Around)(outer:List Env)(s:Sh)(H:Hp)(vs:au)(Q:VK)(E:XK),dy k ļ->sp vs H Q E->
   ∃t,k9 (ϕ N cQ Áh f aG A outer s H E).vL Åq t/\t {nx:=λ_ H'=>Q .aL H',rt:=Q} Ÿ H) (len:∀vs H Q E,sp vs H Q E->vs.length=ps.length:=by intro _ _ _ _ h;first|(cases h;subst_vars;rfl)|(repeat first|(let(rfl,_):=h;rfl)|let(_,h):=h)):Ì aE (k+1) f fd ps sp:=by
 let(O,od,kV,I,pm,z,aG,ct,G,rfl,lk,m):=F.ex;apply QN lk m S len λA outer s H vs Q E hr j=>?_;let(t,h,q):=U aG A outer s H vs Q E hr j;exact(t,h.vL,q)
def bu.binds{x cQ:Str}{st:Stmt}{f:Addr}{fd:FD}{ps:LS}(F:Ák fd)(h:∀(kV i4 pm:Value)(an:OA)(aG ct:Value)(us:LV),us.length=ps.length->bindArgs Ě ⟨us,[]⟩=pure Àl):Binds K fd ps []:=by
 let(O,od,kV,i4,pm,an,aG,ct,m,rfl,lk,j):=F.ex;exact .all (h kV i4 pm an aG ct)
def nU{x cQ:Str}{st:Stmt}{f:Addr}{O:Value}{od an:OA}{j:AO}{kV i4 pm aG ct:Value}(l:K.lookup f=some ⟨O,od,.func Ě,j⟩)(c:PySem.W.codeIn K aG cQ=true) (k:PySem.W.keepIn K Ă=true):Ák Ě:=⟨⟨O,od,kV,i4,pm,an,aG,ct,j,rfl,l,c⟩,k⟩
end
def zu(hr:dy k A):A.units+1<cLine:=pP (YX (by decide:1<=64) _) hr.units
section
def pv(i:Nat)(j:X.N[i]? =some x:=by rfl)(m:xx X.env.scope x:=by first|exact Or.inl Á|exact Or.inr (Or.inl Á)|exact Or.inr (Or.inr Á))(hd:(x==("__debug__":Str))=false:=by decide)(z:(x==("__classdict__":Str))=false:=by decide):PE X Ϻ (ay i):=Ql j m hd z
end
def nV{A B:Prop}(h:B):if false=true then A else B:=by
 symm
def lx{A B:Prop}(h:A):if true=true then A else B:=by
 symm
def ba{c A B:Prop}[Decidable c](j:c->A)(h2:¬c->B):if c then A else B:=by
 symm
def ai(H H':Hp):Prop:=∀b o,H b=some o->H' b=some o
def ai.refl(H:Hp):ai H H:=λ_ _ h=>h
def ai.trans(a:ai H H1)(b:ai H1 H2):ai H H2:=λc o h=>b c o (a c o h)
theorem ai.free(e:ai H H')(h:H' l=Option.none):H l=Option.none:=by
 cases q:H l with
 |none=>rfl
 |some o=>
  rw[e l o q] at h;cases h
def ai.seq{K:FR}{H H':Hp}{a:Addr}{xs:au}(e:ai H H')(h:ä a xs):aa K H' a xs:=by
 rcases h with (h|⟨o,h⟩)|h
 .exact .inl (.inl (e _ _ h))
 .exact .inl (.inr ⟨o,e _ _ h⟩)
 .exact .inr h
section
variable{κ:Type}[DecidableEq κ]
theorem Jw{l:List κ}:∀{k:κ},l.Nodup->¬k∈l->(l++[k]).Nodup:=by
 induction l with
 |nil=>
  intro k _ _;simp
 |cons a r I=>
  intro k h hk;let(j,h2):=kO.mp h;show(a::(r++[k])).Nodup;apply kO.mpr ⟨λm=>?_,I h2 λm=>hk (a0.mpr (Or.inr m))⟩;rcases gQ.mp m with q|q
  .exact j q
  .exact hk (a0.mpr (Or.inl (nu.mp q).symm))
end
def ai.made(nx:H x=Option.none)(nd:H dx=Option.none)(k:∀b o,(upd (upd H dx Åj) x Âo) b=some o->b≠x->H1 b=some o):ai H H1:=λb o e=>
 k b o (by rw[aq (eQ e nx),aq (eQ e nd)];exact e) (eQ e nx)
end L2
end
section
namespace L2
open PySem PySem.Spec PyProof.Rows PySem.XL
def one(x:Addr)(P:Obj->Prop):HO:=.ext λh=>∃o,h.get? x=some o/\P o
def sU(e:h.get? x=some o)(p:P o):fJ Pr w H h x (one x P):=
 ⟨⟨o,e,p⟩,⟨o,e⟩,λ_ _ ⟨o,e,p⟩ k=>⟨o,k o e,p⟩⟩
def qj(ax:dX Pr w H h)(e:H x=some (one x P)):∃o,h.get? x=some o/\P o:=(ax x _ e).1
def Jx(C:Addr)(od:OA)(j:Value)(o:Obj):Prop:=o.cls=.ref C/\o.dict=od/\∃vs,o.data=.fields vs/\vs[1]? =some j
def exc(C:Addr)(od:OA)(j:Value)(x:Addr):HO:=one x (Jx C od j)
def RP(fl:Value)(o:Obj):Prop:=∃ts,o.data=.fields ts/\ts[3]? =some fl
def ent(fl:Value)(T:Addr):HO:=one T (RP fl)
def uT(d:Addr)(fs:List (Str×V)):HO:=.ext λh=>∃mA,h.Ns1 d mA/\(∀f,jW Ág (mA f))/\Within mA (fs.map (·.1))/\fs.length<=1000
def RQ(n:h.Ns1 d mA)(r:∀f,jW Ág (mA f))(W:Within mA (fs.map (·.1)))(l:fs.length<=1000):fJ Pr w H h d (uT d fs):=by
 apply(⟨mA,n,r,W,l⟩,?_,λj h2 ⟨m,n,r⟩ k=>⟨m,n.at k,r⟩);let(o,_,_,e,_):=n;symm
def adh(ax:dX Pr w H h)(e:H d=some (uT d fs)):∃mA,h.Ns1 d mA/\(∀f,jW Ág (mA f))/\Within mA (fs.map (·.1))/\fs.length<=1000:=(ax d _ e).1
abbrev uU:LV:=[.type "Exception",.type "BaseException",.type "object"]
inductive RR(K:FR)(C N:Addr):Prop
 |mk (od:OA) (nm qn:Str) (bs sub:LV) (sn:LS) (ab:Bool) (col:Option Bool) (e0 e1 e2 e3 e5:Option Value) (_:K.lookup C=some ⟨.type "type",od,.cls ⟨nm,bs,.ref C::uU,N,qn,true,sn,sub,ab,col,false⟩,#[e0,e1,e2,e3,some (.builtin "Exception.__new__"),e5]⟩) (_:PySem.W.nsOkIn K N=true)
structure XC(K:FR)(C N:Addr):Prop where
 cl:RR K C N
 ga:PySem.W.nsIn K N "__getattribute__"=some none
 gt:PySem.W.nsIn K N "__getattr__"=some none
 sa:PySem.W.nsIn K N "__setattr__"=some none
structure EI(K:FR)(N:Addr)(f:Str):Prop where
 own:PySem.W.nsIn K N f=some none
 base:typeLookup (.type "Exception") f=pure none
def adi{K:FR}{h:Heap}{N:Addr}{mg:MG}{n:Str}{v:Value}(X:K.In h)(G:h.Ns N mg)(e:PySem.W.nsIn K N n=some Ãt):mg n=some v:=by
 let(o,es,ep,m,hd,_,j):=G;delta PySem.W.nsIn at e;split at e
 .rename_i c d I F sl q;let:=X _ _ q;rw[m] at this;cases this;cases hd;split at e
  .rename_i y z;rw[<-j];delta nsFind findBy;symm
  .symm
 .cases e
def XC.obj{K:FR}{C N:Addr}(c:XC K C N):∃nm q bs sn sub ab col dd k0 k1 k2 k3 k5,∀h:Heap,K.In h->h.get? C=some (excClassObj nm q C N bs uU true sn sub ab col dd k0 k1 k2 k3 k5 "Exception.__new__")/\h.Ns N (h.nsMap N)/\
  h.nsMap N "__getattribute__"=none/\h.nsMap N "__getattr__"=none/\h.nsMap N "__setattr__"=none:=by
 let(dd,nm,m,bs,sub,sn,ab,col,k0,k1,k2,k3,k5,j,ax):=c.cl;exact(nm,m,bs,sn,sub,ab,col,dd,k0,k1,k2,k3,k5,λh X=>⟨X _ _ j,.of_isNs (PySem.W.isNs_of_in X ax),PySem.W.nsMap_none_of_in X ax c.ga,PySem.W.nsMap_none_of_in X ax c.gt,PySem.W.nsMap_none_of_in X ax c.sa⟩)
def RS(p:Jx C od tv o)(T:Addr):Jx C od Ů (o.mapFields (·.setIfInBounds 1 Ů)):=by
 let(F,h2,vs,j,G):=p;let z:=(AU.mp G).1;apply((YE _ _).trans F,?_,_,vA j _,by simp[z]);let(c,d,m,sl):=o;cases m <;> first|exact h2|cases j
def EJ(S:LA)(ax:ġ h)(same:∀b,b∉S->H2 b=H b)(I:∀b,b∈S->H b=none\/∃φ,H b=some (.ext φ)) (new:∀b,b∈S->∀u,H2 b=some u->fJ P w H2 h2 b u)(keep:∀b o u,H b=some u->b∉S->h.get? b=some o->h2.get? b=some o):dX P w H2 h2:=λb u q=>by
 by_cases j:b∈S
 .symm
 .rw[same b j] at q;let m:∀c v,H c=some v->(∀φ,v≠ .ext φ)->c∉S:=λc v e ne z=>by
   grind
  apply(ax b u q).nB (λc v hc g=>?_) (λc e=>?_) λc xs e=>?_
  .grind
  .symm
  .symm
def EK{fs:LA}{H F:Hp}{h h2:Heap}(S:LA)(same:∀b,b∉S->F b=H b)(I:∀b,b∈S->(H b=none/\h.get? b=none)\/∃φ,H b=some (.ext φ))(keep:∀b o,b∉S->b∉fs->h.get? b=some o->h2.get? b=some o) (slot:∀b o,b∉S->b∈fs->h.get? b=some o->∃sl,h2.get? b=some {o with slots:=sl})(there:∀b,b∈S->∀o,h.get? b=some o->∃O,h2.get? b=some O):Un fs [] H F h h2:=by
 let j:∀b o,h.get? b=some o->H b=none->b∉S:=λb o e n z=>by
  grind
 let J:∀c v,H c=some v->(∀φ,v≠ .ext φ)->c∉S:=λc v e ne z=>by
  grind
 apply⟨λb o e n m _=>keep b o (j b o e n) m e,λb o e n m _=>slot b o (j b o e n) m e,λb o e n _=>by rw[same b (j b o e n)];exact n,λb o e _=>?_,
  λb xs e=>by rw[same b (J b _ e (λφ z=>by cases z))];exact e,λb o u e=>by rw[same b (J b _ e (λφ z=>by cases z))];exact e,λb ps e=>⟨#[],by rw[same b (J b _ e (λφ z=>by cases z)),e];simp⟩⟩
 by_cases G:b∈S
 .symm
 .grind
def Kp(a:Addr)(H0 H:Hp):Prop:=∀b o,H0 b=some o->b≠a->H b=some o
def Jz(H0:Hp)(a C:Addr)(od:OA)(H:Hp):Prop:=∃j,H a=some (exc C od j a)/\Kp a H0 H/\(j=.none\/∃T fl,j=.ref T/\T≠a/\H0 T=none/\H T=some (ent fl T))
def rB(fl:Value)(H0:Hp)(a C:Addr)(od:OA)(H:Hp):Prop:=∃T,H a=some Çt/\Kp a H0 H/\T≠a/\H0 T=none/\H T=some (ent fl T)
def rB.at_(f:rB fl H0 a C od H):Jz H0 a C od H:=
 let ⟨T,h1,h2,h3,h4,h5⟩:=f
 ⟨_,h1,h2,.inr ⟨T,fl,rfl,h3,h4,h5⟩⟩
def adj(h:e.frame=e'.frame):noteFrame x e=noteFrame x e':=by
 delta noteFrame PySem.frameOf;rw[h]
def sV{x:Addr}{P:Obj->Prop}{H:Hp}(e:H x=some (one x P)):∃φ,H x=some (.ext φ):=⟨_,e⟩
section
variable{X:Cx}{pins:bJ}{σ:St}{H H0:Hp}{s:Sh}{A:Around}{E:VP}{a C:Addr}{od:OA}
def EL{Q:Unit->Shared->Prop}{env en:Env}{outer:List Env}{L:Addr}(qY:X.stack=env::outer)(M:env.frame=some L)(JA:en.frame=some L)(hA:A.frames=some X.stack)(I:Ã H s)(f:Jz H0 a C od H)(k:∀s' H',Ã H' s'->rB Æp H0 a C od H'->Q () s'):wpAny È A (noteFrame Ğ en) Q E s:=by
 rw[adj (JA.trans M.symm)];let(tv,j,kp,f):=f;let(o,Y,pe):=qj I.ax j;let(q1,q2,vs,q3,q4):=id pe;let ff:s.heap.FunFrames X.base (env::outer):=by rw[<-qY];exact I.stack
 let zd:A.frames=some (env::outer):=by rw[<-qY];exact hA
 let RT:nF X.stack=(env::outer).filterMap (·.frame):=by rw[qY];rfl
 rcases f with rfl|⟨T0,fl,rfl,h1,h2,F⟩
 .apply ZM (z:=a) zd ff M Y q3 q4 λh' T n=>?_;rw[<-RT] at n;let J:=I.ax.fresh n.new;let gT:=Pp n.new;let S:=RS pe T;let G:∀b,b∉[a,T]->(ů) b=H b:=λb nb=>by
   let:b≠a/\b≠T:=À nb
   rw[aq this.2,aq this.1]
  let W:(ů) T=some ŭ:=ao;let m:(ů) a=some Çt:=by rw[aq (d8 n.ne),ao]
  let(oT,ts,t1,t2,t3):=n.ent;let xV:H0 T=none:=by
   cases e:H0 T with
   |none=>rfl
   |some u=>rw[kp T u e n.ne] at J;cases J
  apply k {s with heap:=h'} ů (I.vI (s':={s with heap:=h'}) (ch:=[]) Á (EK [a,T] G đ Ş Ş λb hb o g=>?_) (EJ [a,T] I.ax G đ Àa λb o u hb nb g=>?_) I.bare ķ)
   ⟨T,m,λb o e nb=>?_,n.ne,xV,W⟩
  .let:b=a\/b=T:=by simpa using hb
   rcases this with rfl|rfl
   .exact .inr (sV j)
   .symm
  .let:b≠a/\b≠T:=by simpa using nb
   exact n.keep b o nf this.1 this.1 g
  .let:b≠a/\b≠T:=by simpa using nb
   exact n.slot b o nf this.1 this.1 g
  .let:b=a\/b=T:=by simpa using hb
   rcases this with rfl|rfl
   .exact(_,n.exc)
   .symm
  .let:b=a\/b=T:=by simpa using hb
   rcases this with rfl|rfl
   .exact .inr (sV j)
   .symm
  .let:b=a\/b=T:=by simpa using hb
   rcases this with rfl|rfl
   .rw[m] at hu;cases hu;exact sU n.exc S
   .rw[W] at hu;cases hu;exact sU t1 ⟨ts,t2,t3⟩
  .let:b≠a/\b≠T:=by simpa using nb
   exact n.keep b o (λz=>by rw[I.D4 b z] at hb;cases hb) this.1 this.1 g
  .rw[aq (λz=>by simp_all),aq nb];exact kp b o e nb
 .cases O:(fl==rawInt L) with
  |false=>
   let(oz,Z,zs,U,z3):=qj I.ax F;apply ZN zd ff M Y q3 q4 Z U z3 O h1 λh' T n tz kz=>?_;rw[<-RT] at n;let J:=I.ax.fresh n.new;let gT:=Pp n.new;let S:=RS pe T;let G:∀b,b∉[a,T,T0]->(æ) b=H b:=λb nb=>by
    let:b≠a/\b≠T/\b≠T0:=À nb
    rw[aq this.2.1,aq this.1,aq this.2.2]
   let W:(æ) T=some ŭ:=ao;let m:(æ) a=some Çt:=by rw[aq (d8 n.ne),ao]
   let hT0:(æ) T0=some (ent .none T0):=by rw[aq (d8 tz),aq h1];exact ao
   let(oT,ts,t1,t2,t3):=n.ent;let(oz',zs',z1',z2',z3'):=kz;let xV:H0 T=none:=by
    cases e:H0 T with
    |none=>rfl
    |some u=>rw[kp T u e n.ne] at J;cases J
   apply k {s with heap:=h'} æ (I.vI (s':={s with heap:=h'}) (ch:=[]) Á (EK [a,T,T0] G đ Ş Ş λb hb o g=>?_) (EJ [a,T,T0] I.ax G đ Àa λb o u hb nb g=>?_) I.bare ķ)
    ⟨T,m,λb o e nb=>?_,n.ne,xV,W⟩
   .let:b=a\/b=T\/b=T0:=by simpa using hb
    rcases this with rfl|rfl|rfl
    .exact .inr (sV j)
    .symm
    .exact .inr (sV F)
   .let:b≠a/\b≠T/\b≠T0:=by simpa using nb
    exact n.keep b o nf this.1 this.2.2 g
   .let:b≠a/\b≠T/\b≠T0:=by simpa using nb
    exact n.slot b o nf this.1 this.2.2 g
   .let:b=a\/b=T\/b=T0:=by simpa using hb
    rcases this with rfl|rfl|rfl
    .exact(_,n.exc)
    .symm
    .symm
   .let:b=a\/b=T\/b=T0:=by simpa using hb
    rcases this with rfl|rfl|rfl
    .exact .inr (sV j)
    .symm
    .exact .inr (sV F)
   .let:b=a\/b=T\/b=T0:=by simpa using hb
    rcases this with rfl|rfl|rfl
    .rw[m] at hu;cases hu;exact sU n.exc S
    .rw[W] at hu;cases hu;exact sU t1 ⟨ts,t2,t3⟩
    .rw[hT0] at hu;cases hu;exact sU z1' ⟨zs',z2',z3'⟩
   .let:b≠a/\b≠T/\b≠T0:=by simpa using nb
    exact n.keep b o (λz=>by rw[I.D4 b z] at hb;cases hb) this.1 this.2.2 g
   .rw[aq (λz=>by simp_all),aq nb,aq (λz=>by simp_all)];exact kp b o e nb
  |true=>
   let O:=eq_of_beq O;subst O;let(oz,Z,zs,U,z3):=qj I.ax F;exact wpAny_noteFrame_inFlight M Y q3 q4 Z U z3 (k s H I ⟨T0,j,kp,h1,h2,F⟩)
def BN{Q:Unit->Shared->Prop}{fl:Value}(fr:OA)(I:Ã H s)(f:rB fl H0 a C od H)(k:∀s' H',Ã H' s'->rB (fr.elim .none λf=>rawInt f) H0 a C od H'->Q () s'):wpAny È A (setFlight Ğ fr) Q E s:=by
 let(T,O,kp,aU,S,m):=f;let(o,U,q1,q2,vs,q3,q4):=qj I.ax O;let(W,J,zs,j,z3):=qj I.ax m;let Z:3<zs.size:=(AU.mp z3).1;delta setFlight;apply aQ (vB U q3 q4 ?_);rw[af (show(Value.ref T !=Value.none)=true by simp)];apply DE J j Z ?_;let F:∀b,b≠T->(s.heap.update T (Obj.mapFields (·.setIfInBounds 3 (fr.elim .none λf=>rawInt f)))).get? b=s.heap.get? b:=λb n=>AS _ _ (d8 n);let G:(s.heap.update T (Obj.mapFields (·.setIfInBounds 3 (fr.elim .none λf=>rawInt f)))).get? T=_:=DG _ J (HI (vA j _));let Y:RP (fr.elim .none λf=>rawInt f) (W.mapFields (·.setIfInBounds 3 (fr.elim .none λf=>rawInt f))):=⟨_,vA j _,by simp[Z]⟩;let M:∀b,b∉[T]->(Ϡ (ent (fr.elim .none λf=>rawInt f) T)) b=H b:=λb nb=>by
  let:b≠T:=À nb
  rw[aq this]
 apply k {s with heap:=s.heap.update T (Obj.mapFields (·.setIfInBounds 3 (fr.elim .none λf=>rawInt f)))} (Ϡ (ent (fr.elim .none λf=>rawInt f) T)) (I.vI (s':={s with heap:=s.heap.update T (Obj.mapFields (·.setIfInBounds 3 (fr.elim .none λf=>rawInt f)))}) (ch:=[]) Á (EK [T] M đ Ş Ş λb hb o g=>?_) (EJ [T] I.ax M đ Àa λb o u hb nb g=>?_) I.bare ķ)
   ⟨T,?_,λb o e nb=>?_,aU,S,ao⟩
 .let:b=T:=by simpa using hb
  subst this;exact .inr (sV m)
 .let:b≠T:=by simpa using nb
  exact(F b this).trans g
 .let:b≠T:=by simpa using nb
  exact(o.slots,(F b this).trans g)
 .let:b=T:=by simpa using hb
  subst this;exact(_,G)
 .let:b=T:=by simpa using hb
  subst this;exact .inr (sV m)
 .let:b=T:=by simpa using hb
  subst this;rw[ao] at hu;cases hu;exact sU G Y
 .let:b≠T:=by simpa using nb
  exact(F b this).trans g
 .rw[aq År];exact O
 .rw[aq (λz=>by rw[z,S] at e;cases e)];exact kp b o e nb
end
def fV(P:Pg)(w:Wd):nN:=λouter H s E e s'=>∃a C od H0 H',e=.ref a/\s'.os=s.os/\AllBare s'.gens/\Un (nF outer) [] H H' s.heap s'.heap/\dX P w H' s'.heap/\rB .none H0 a C od H'/\(∀d,od=some d->d≠a)/\E ā od H0
def zw(X:Cx)(E:XK)(e:Value)(s:Sh):Prop:=∃a C od H0 H σ,e=.ref a/\Inv X [] σ H s/\Jz H0 a C od H/\(∀d,od=some d->d≠a)/\E ā od H0
abbrev Cx.xW(X:Cx)(E:XK):Cx:=X.iK (zw X E)
def Cx.EN(X:Cx):Prop:=X.stack=X.env::X.outer/\X.env.frame=some X.env.locals
def Inv.JC(I:Ã H s):Inv X [] σ H s:=I.Iv λp j=>absurd j Ä
def rD{X:Cx}{E:XK}:uI (fV X.prog X.w) (X.xW E) E:=λpins σ H s e s' I h=>by
 let(a,C,od,H0,H',j,m,F,G,J,M,O,S):=h;exact(a,C,od,H0,H',σ,j,(I.mf.vI (ch:=[]) m G J F ķ).JC,M.at_,O,S)
def JD(O:X.EN):PassesOwn È X.A X.env (zw X E):=λe s h=>by
 let(a,C,od,H0,H,σ,rfl,I,f,m,z):=h;apply EL O.1 O.2 O.2 I.ok.frames I f λs' H' j F=>?_;let(T,M,_):=id F;let(o,G,q1,q2,vs,U,W):=qj j.ax M;apply aQ (vB G U W ?_);rw[ah (show ¬(Value.ref T==Value.none)=true from eC)];apply BN X.env.frame j F λY S Z J=>?_;exact(a,C,od,H0,S,σ,Á,Z,J.at_,m,z)
def wb{CX:nN}{P:Pg}{w:Wd}{K:FR}{mg:MG}{base:Heap}{N:LS}{cQ:Str}{scope:Scope}{f:Addr}{cd:Value}{A:Around}{outer:List Env}{s:Sh}{H:Hp}{E:XK}:
  (Į scope f cd A outer s H E).EN:=⟨rfl,rfl⟩
def adp{P:Pg}{w:Wd}{K:FR}{mg:MG}{base:Heap}{N:LS}{j:Str}{scope:Scope}{f:Addr}{cd:Value}{A:Around}{outer:List Env}{s:Sh}{H:Hp}{E:XK}{e:Value}{S:Sh}(h:zw (lV Ď P w K mg base N j scope f cd A outer s H E) E e S):(lV Ď P w K mg base N j scope f cd A outer s H E).xe e S:=by
 let(a,C,od,H0,H1,σ,rfl,I,f,F,G):=h;show wpAny _ _ (leaving _ _) _ _ S;delta leaving;apply aQ (EL (X:=lV Ď P w K mg base N j scope _ cd A outer s H E) wb.1 wb.2 wb.2 I.ok.frames I f λs' H' m M=>?_);apply BN (X:=lV Ď P w K mg base N j scope _ cd A outer s H E) none m M λU O z J=>?_;exact(a,C,od,H0,O,Á,z.os,z.bare,z.base,z.ax,J,F,G)
def bu.qk{P:Pg}{w:Wd}{K:FR}{mg:MG}{base:Heap}{x cQ:Str}{st:Stmt}{f:Addr}{fd:FD}{N ps:LS}{k:Nat}{sp:Sp}(F:Ák fd)(S:bO N ps Áh)(U:∀(aG:Value)(A:Around)(outer:List Env)(s:Sh)(H:Hp)(vs:au)(Q:VK)(E:XK),dy k ļ->sp vs H Q E->
   ∃t,k9 ((lV Ď P w K mg base N cQ Áh f aG A outer s H E).xW E) Åq t/\t {nx:=λ_ H'=>Q .aL H',rt:=Q} Ÿ H) (len:∀vs H Q E,sp vs H Q E->vs.length=ps.length:=by intro _ _ _ _ h;first|(cases h;subst_vars;rfl)|(repeat first|(let(rfl,_):=h;rfl)|let(_,h):=h)):Ì Ď (k+1) f fd ps sp:=by
 let(Y,od,kV,O,pm,M,aG,ct,W,rfl,lk,m):=F.ex;apply QN lk m S len λA outer s H vs Q E hr J=>?_;let(t,h,q):=U aG A outer s H vs Q E hr J;exact(t,λpins G σ H1 D I j=>i6 (h pins G σ H1 D (I.iK _) j) (λ_ _ q=>q.mf) λe Z z=>adp z,q)
def adq(E:XK)(C:Addr)(te:TE):TS:=λ_ σ H=>te σ H λv H1=>∃a od,v=.ref a/\H1 a=some (exc C od .none a)/\(∀d,od=some d->d≠a)/\E ā od H1
def jG{X:Cx}{E:XK}{e:Expr}{te:TE}{C N:Addr}{pos:Pos}(J:X.A.handled=none)(c:XC X.K C N)(F:PE (X.xW E) e te):PS (X.xW E) (.Raise (some e) none pos) (adq E C te):=by
 intro pins s σ H D I h;let(nm,q,bs,sn,sub,ab,col,dd,k0,k1,k2,k3,k5,cls):=c.obj;rw[arm_exec_Raise];refine aQ (PK (ZK (C:=C) (nm:=nm) (q:=q) (N:=N) (bs:=bs) (bm:=uU) (hdct:=true) (sn:=sn) (sub:=sub) (ab:=ab) (col:=col) (dd:=dd) (k0:=k0) (k1:=k1) (k2:=k2) (k3:=k3) (k5:=k5) (newId:="Exception.__new__") Ù J
  (aQ (aN (F pins s σ H _ I h) λu Z ⟨v,H1,j,U,a,od,z,m,hd,W⟩=>aQ (PK (di ?_))))))
 subst z;obtain rfl:u=Value.ref a:=U;let(o,G,M,Y,vs,O,S):=qj j.ax m;exact(a,o,vs,Á,(cls _ j.fO).1,G,M,O,S,a,C,od,H1,H1,σ,Á,j.mf.JC,⟨.none,m,λb o e _=>e,.inl Á⟩,hd,W)
def Inv.EO{X:Cx}{pins:bJ}{σ:St}{H m:Hp}{s:Sh}{h2:Heap}{t2:Nat}(S:LA)(I:Ã H s)(same:∀b,b∉S->m b=H b)(F:∀b,b∈S->(H b=none/\s.heap.get? b=none)\/∃φ,H b=some (.ext φ)) (new:∀b,b∈S->∀u,m b=some u->Àc m h2 b u)(keep:∀b o,b∉S->s.heap.get? b=some o->h2.get? b=some o) (there:∀b,b∈S->∀o,s.heap.get? b=some o->∃O,h2.get? b=some O):Ã m {s with heap:=h2,toks:=t2}:=
 I.vI (s':={s with heap:=h2,toks:=t2}) (ch:=[]) rfl (EK S same F (λb o j _ g=>keep b o j g) (λb o j _ g=>⟨o.slots,keep b o j g⟩) there)
  (EJ S I.ax same (λb G=>(F b G).imp (·.1) id) new λb o u _ j g=>keep b o j g) I.bare ķ
def JF{K:FR}{C N:Addr}(c:XC K C N):PySem.W.nsOkIn K N=true:=by
 let(_,_,_,_,_,_,_,_,_,_,_,_,_,_,h):=c.cl;exact h
section
def ads{K:FR}{h:Heap}{f:Addr}(XK:K.In h)(j:PySem.W.isFn K Ă=true):∃o,h.get? f=some o/\o.cls=.type "function":=by
 let e:=uv.mp j;delta PySem.W.typeIn at e;cases q:K.lookup f with
 |none=>
  symm
 |some o=>
  simp only[q] at e;exact(o,XK _ _ q,aI e)
def adt(C:Addr)(sp:Sp)(I:au)(E:XK)(t:TA):TE:=λσ H Q=>t σ H λvs H1=>vs.length<=sizeLine/\∀x,H1 x=none->
 sp (.ref x::(vs++I)) (upd H1 x Ŕ) (λv j=>v=.aL/\Q š j) E
def adu{pins:bJ}{σ:St}{H:Hp}{s:Sh}{Q:VK}{U:LV}{vs:au}(c:XC X.K C N)(mI:PySem.W.nsIn X.K N "__init__"=some Âd)(fn:PySem.W.isFn X.K Ă=true)(F:ú CX k f fd ps sp)(hr:dy (k+1) X.A)(hb:ł ds)(hd:bh i9 ds)(hx:uI CX X E) (I:Ã H s) (r:bh vs U) (uV:vs.length<=sizeLine)(h:∀x,H x=none->sp (.ref x::(vs++i9)) (Áj Ŕ) (λv S=>v=.aL/\Q š S) E):
  wpAny È X.A (call ā U) (ò Q) X.xe s:=by
 let(nm,q,bs,sn,sub,ab,col,dd,k0,k1,k2,k3,k5,cls):=c.obj;let(Z,J,_):=cls s.heap I.fO;let(oF,gF,cF):=ads I.fO fn;let xw:=adi I.fO J mI;let M:=h Ï (I.ax.fresh (YQ _));let g2:((s.heap.push (oK U)).push Âr).get? Ï=some Âr:=by
  let z:=iq (s.heap.push (oK U)) (o:=qU C s.heap.objs.size) rfl;symm
 let m:Ã (upd H Ï (exc C none .none Ï)) {s with heap:=(s.heap.push (oK U)).push Âr}:=
  I.laid (t':=s.toks) (λb u q=>dq _ (dq _ q)) (YQ _) (sU g2 ⟨rfl,rfl,_,rfl,rfl⟩)
 let O:bh (V.ref Ï::(vs++i9)) (Value.ref Ï::(U++ds)):=.cons rfl (r.append hd);let hl:(Value.ref Ï::U++ds).length=ps.length:=by
  let e:=O.length;rw[F.len _ _ _ _ M] at e;symm
 let(G,g,d,tk,os):=s;refine AR (ZJ PySem.F.excBase_Exception Z J xw gF cF (vz (F.run _ X.stack _ _ ⟨Value.ref (G.objs.size+1)::U,[]⟩ (Value.ref (G.objs.size+1)::(U++ds)) _ _ E (hr.make C U [])
  (m.zg.make C U []) (hb _ (Value.ref (G.objs.size+1)::U) m.fO hl) O M) λr s' j=>?_) (by rw[<-r.length];exact uV))
 cases r with
 |error e=>exact hx pins σ _ _ e s' m j
 |ok fl=>
  cases fl with
  |ret u=>
   let(v,H',Y,rv,ev,q3):=m.after j;subst ev;exact(rv,⟨V.ref (G.objs.size+1),H',Y,Á,q3⟩)
  |next=>exact False.elim j
  |brk=>exact False.elim j
  |cont=>exact False.elim j
def ER(c:XC X.K C N)(U:PySem.W.nsIn X.K N "__init__"=some Âd)(fn:PySem.W.isFn X.K Ă=true)(kp:PySem.W.keepIn X.K ā=true)(F:ú CX k f fd ps sp)(hr:dy (k+1) X.A)(J:Gl X x)(M:X.mg x=some ā)(z:ł ds)(hd:bh i9 ds)(O:uI CX X E)(m:PA X (e::es) t) (S:(x==("__debug__":Str))=false:=by decide) (G:starEach (e::es) X.env=(false,eval e X.env)::starEach es X.env:=by rfl) (j:(backTo pos õ).any (·.1)=false:=by rfl):
  PE X (.Call ώ (e::es) [] pos) (adt C sp i9 E t):=by
 show Ò;apply xo (vJ I J M ?_ S);refine PySem.W.callWith_K (h₀:=X.base) I.ok.mod.sE kp (aN (m pos pins s σ H _ I h) λZ Y ⟨vs,H1,I1,r,q⟩=>Áx) G j;exact adu c U fn F hr z hd O I1 r q.1 q.2
def adv(K:FR)(t:TA):TE:=λσ H Q=>t σ H λvs H1=>∃a C N od j,vs=[.ref a]/\H1 a=some (exc C od j a)/\XC K C N/\Q .aL H1
def adw{pl:Sem Bool}(hg:Gl X "Exception")(hm:X.mg "Exception"=none)(hf:PySem.W.findCls X.K (.type "Exception") (.type "type") "__init__"=some (.val (.builtin "Exception.__init__")))(ha:PA X (e::es) t)(sO:typeOf (.type "Exception")=pure (.type "type")) (qY:Manifest.isStub "Exception"=false) (J:bootBuiltins "Exception"=some (.type "Exception"))(he:starEach (e::es) X.env=(false,eval e X.env)::starEach es X.env:=by rfl) (dh:(backTo pos õ).any (·.1)=false:=by rfl)(ht:eval (.Call (.Attribute (.Name "Exception" p) "__init__" i5) (e::es) [] pos) X.env=(do
   let S <-eval (.Name "Exception" p) X.env
   standAt i5.atName
   let (f,first) <-holding [S] (getMethod S "__init__" pl)
   callWith pos f first (backTo pos (starEach (e::es) X.env)) (backToKw pos ϶)):=by rfl):
  PE X (.Call (.Attribute (.Name "Exception" p) "__init__" i5) (e::es) [] pos) (adv X.K t):=by
 show Ò;apply PySem.W.methodCall_KW (pl:=pl) (Àk J ?_) ht;let(m,F):=I.fr;apply PySem.W.method_type F I.ok.mod.sE sO qY hf Ô ?_;apply ap8 (aN (ha pos pins _ σ H _ (I.tok _) h) λus Y ⟨vs,H1,G,r1,a,C,N,od,tv,ev,z,c,q⟩=>?_) he dh;subst ev;let(u,rfl,ru):=vals1 r1;cases ru;let(nm,qn,bs,sn,sub,ab,col,dd,k0,k1,k2,k3,k5,cls):=c.obj;let(Z,c2,_):=cls Y.heap G.fO;let(o,O,U,q2,wc,j,q4):=qj G.ax z;let zz:=(AU.mp q4).1;let(M,g,d,tk,os):=Y;apply ZL PySem.F.excBase_Exception Z O U j Å ?_;let gp:=dq (h:=M) (oK []) O;let gx:((M.push (oK [])).update a (Obj.mapFields (·.setIfInBounds 0 (.ref M.objs.size)))).get? a=_:=DG _ gp (HI (vA j _));apply(.aL,H1,G.EO (t2:=tk) [a] (λb _=>Á) đ Àa Æj λb hb o g=>?_,Á,q)
 .let:b=a:=by simpa using hb
  subst this;exact .inr (sV z)
 .let:b=a:=by simpa using hb
  subst this;rw[z] at hu;cases hu;apply sU gx ⟨(YE _ _).trans U,?_,_,vA j _,?_⟩
  .let(cc,cd,dt,sl):=o;cases dt <;> first|exact q2|cases j
  .symm
 .let:b≠a:=by simpa using nb
  rw[AS _ _ (d8 this)];exact dq _ g
 .symm
def ady(K:FR)(ta m:TE)(g:Str):TS:=λD σ H=>m σ H λy H1=>ta σ H1 λv j=>∃a C N te,v=.ref a/\j a=some (exc C none te a)/\XC K C N/\EI K N g/\
 ∀d,j d=none->d≠a->D.nx σ (upd (upd j a (exc C (some d) te a)) d (uT d (iu g y [])))
def adz{g:Str}{J:Expr}{jU:Pos}(ha:PE X o ta)(hv:PE X J tv)(hs:swapsWith J (some (.Attribute o g jU)) pos.line X.env=pure false):PS X (.Assign [.Attribute o g jU] J pos) (ady X.K ta tv g):=by
 intro pins s σ H D I h;apply YO (aN (hv pins s σ H _ I h) λu s1 ⟨y,H1,I1,ry,q⟩=>aN (ha pins s1 σ H1 _ I1 q) λov S ⟨x,M,m,rx,a,C,N,te,ex,U,c,n,q2⟩=>?_) hs;subst ex;obtain rfl:ov=Value.ref a:=rx;let(nm,qn,bs,sn,sub,ab,col,dd,k0,k1,k2,k3,k5,cls):=c.obj;let(c1,c2,c3,c4,c5):=cls S.heap m.fO;let(o,Y,p1,p2,wc,p3,p4):=qj m.ax U;let uB:S.heap.nsMap N g=none:=PySem.W.nsMap_none_of_in m.fO (JF c) n.own;let(j,gg,dr,tk,os):=S;apply ZT PySem.F.store_Exception c1 c2 c5 uB n.base Y p1 (λc z=>(by rw[p3] at z;cases z)) p2 λh' lR w1 w2 w3=>?_;let dn:M j.objs.size=none:=m.ax.fresh (bU _);let O:j.objs.size≠a:=uq (c9 Y);let e1:(upd (upd M a (exc C (some j.objs.size) te a)) j.objs.size (uT j.objs.size (iu g y []))) a=some (exc C (some j.objs.size) te a):=by rw[aq (d8 O),ao]
 apply(σ,_,m.EO (h2:=h') (t2:=lR) [a,j.objs.size] (λb nb=>?_) đ (λb hb u' G=>?_) Æj (λb hb o g=>?_),q2 j.objs.size dn O)
 .let:b≠a/\b≠j.objs.size:=by simpa using nb
  rw[aq this.2,aq this.1]
 .let:b=a\/b=j.objs.size:=by simpa using hb
  rcases this with rfl|rfl
  .exact .inr (sV U)
  .exact .inl ⟨dn,Pp (bU _)⟩
 .let:b=a\/b=j.objs.size:=by simpa using hb
  rcases this with rfl|rfl
  .rw[e1] at G;cases G;exact sU w2 ⟨p1,Á,wc,p3,p4⟩
  .rw[ao] at G;cases G;apply RQ w1 (λf=>?_) (λz Z=>?_) (by show 1<=1000;decide)
   .rw[IT];by_cases e:f=g
    .rw[af e,af e];exact ry
    .rw[ah e,ah e];exact True.intro
   .by_cases e:z=g
    .rw[e];exact(Bo g y []).1
    .rw[ah e] at Z;exact absurd Á Z
 .let:b≠a/\b≠j.objs.size:=by simpa using nb
  exact w3 b o this.1 g
 .let:b=a\/b=j.objs.size:=by simpa using hb
  rcases this with rfl|rfl
  .exact(_,w2)
  .exact absurd (c9 g) (qQ _)
def adA(K:FR)(ta m:TE)(g:Str):TS:=λD σ H=>m σ H λy H1=>ta σ H1 λv j=>∃a C N d te fs,v=.ref a/\j a=some (exc C (some d) te a)/\d≠a/\j d=some (uT d fs)/\fs.length<1000/\XC K C N/\EI K N g/\
 D.nx σ (upd j d (uT d (iu g y fs)))
def adB{g:Str}{J:Expr}{O:Pos}(ha:PE X o ta)(hv:PE X J tv)(hs:swapsWith J (some (.Attribute o g O)) pos.line X.env=pure false):PS X (.Assign [.Attribute o g O] J pos) (adA X.K ta tv g):=by
 intro pins s σ H D I h;apply YO (aN (hv pins s σ H _ I h) λu s1 ⟨y,H1,Y,ry,q⟩=>aN (ha pins s1 σ H1 _ Y q) λov S ⟨x,H2,j,rx,a,C,N,d,te,fs,ex,ea,ne,m,fl,c,n,q2⟩=>?_) hs;subst ex;obtain rfl:ov=Value.ref a:=rx;let(nm,qn,bs,sn,sub,ab,col,dd,k0,k1,k2,k3,k5,cls):=c.obj;let(c1,c2,c3,c4,c5):=cls S.heap j.fO;let(o,ge,p1,p2,wc,p3,p4):=qj j.ax ea;let(mA,nA,rA,U,lA):=adh j.ax m;let uB:=PySem.W.nsMap_none_of_in j.fO (JF c) n.own;let Z:a≠C:=λz=>by
  grind
 let(hh,gg,dr,tk,os):=S;let lz:(fs.map (·.1)).length<=sizeLine:=by rw[az,xl];omega
 apply ZU PySem.F.store_Exception c1 c2 c5 uB n.base ge p1 (λc z=>É) p2 ne nA U lz Z λh' lR w1 w3=>?_;apply(σ,_,j.EO (h2:=h') (t2:=lR) [d] (λb nb=>?_) đ (λb hb u' G=>?_) Æj (λb hb o g=>?_),q2)
 .let:b≠d:=by simpa using nb
  rw[aq this]
 .let:b=d:=by simpa using hb
  subst this;exact .inr ⟨_,m⟩
 .let:b=d:=by simpa using hb
  subst this;rw[ao] at G;cases G;apply RQ w1 (λf=>?_) (λz M=>?_) (ia (IU g y fs) fl)
  .rw[IT];by_cases e:f=g
   .rw[af e,af e];exact ry
   .symm
  .by_cases e:z=g
   .rw[e];exact(Bo g y fs).1
   .rw[ah e] at M;exact(Bo g y fs).2 z (U z M)
 .symm
 .let:b=d:=by simpa using hb
  subst this;let(o',_,_,e',_):=w1;symm
end
abbrev Cx.rE(X:Cx)(a:Addr):Cx:={X with A:=X.A.mark (some Ğ),calm:=false,xe:=λ_ _=>False}
def Cx.Ok.rE{X:Cx}(ok:X.Ok)(a:Addr):(X.rE a).Ok:=
 ⟨ok.mod,ok.kind,ok.glob,ok.blt,ok.above,ok.inj,ok.has,ok.xy,λh=>(by cases h),ok.frames,ok.Ba,ok.Bb,ok.bs,ok.nG,ok.yX,ok.yY,ok.k7,ok.pV⟩
def Inv.rE{X:Cx}{pins:bJ}{σ:St}{H:Hp}{s:Sh}(I:Ã H s)(a:Addr):Inv (X.rE a) pins σ H s:=⟨I.ok.rE a,I.os,I.bare,I.base,I.loc,I.cell,I.free,I.k8,I.pin,I.ax,I.len⟩
def Inv.zy(ok:X.Ok)(I:Inv (X.rE a) pins σ H s):Ã H s:=⟨ok,I.os,I.bare,I.base,I.loc,I.cell,I.free,I.k8,I.pin,I.ax,I.len⟩
def adC{M:Model}{A:Around}{E:VP}{nm q RU q':Str}{C N C1 N1:Addr}{bs RV:LV}{hdct j:Bool}{sn RW:LS}{sub RX:LV}{ab RY:Bool}{col RZ:Option Bool}{dd sQ:OA}{k0 k1 k2 k3 k5 S U W Y Z:Option Value}{newId m:String}{h:Heap} {g:Array GenState} {d:Drawn} {t:Nat} {os:OsState} {e:Addr} {O:Obj} {Q:Bool->Shared->Prop}(F:h.get? C=some (excClassObj nm q C N bs uU hdct sn sub ab col dd k0 k1 k2 k3 k5 newId)) (z:h.get? C1=some (excClassObj RU q' C1 N1 RV uU j RW RX RY RZ sQ S U W Y Z m))(he:h.get? e=some O) (G:O.cls=.ref C) (ne:C≠C1)(hq:Q false ⟨h,g,d,t,os⟩):Ϗ (excMatches Èw (.ref C1)) Q E ⟨h,g,d,t,os⟩:=by
 let J:(Value.ref C1::uU).contains (.type "BaseException")=true:=by rw[AQ,show uU.contains (.type "BaseException")=true by decide,YC]
 let I:(Value.ref C::uU).contains (.ref C1)=false:=by
  grind
 let f:=tc_notTuple;delta excMatches
 repeat (first|(with_reducible apply uo he ?_;rw[G])|with_reducible apply uo z ?_|with_reducible apply uo F ?_|(with_reducible apply Pl z ?_;rw[J])|(with_reducible apply Pl F ?_;rw[I])|wp_step)
 exact hq
abbrev TH:=Hp->Addr->Addr->OA->TS
def PH(X:Cx)(j:List ExceptHandler)(th:TH):Prop:=
 ∀(pins:bJ)(s:Sh)(σ:St)(H H0:Hp)(a C N:Addr)(od:OA)(D:Ends),Ã H s->XC X.K C N->rB .none H0 a C od H->th H0 a C od D σ H->
  wpAny È X.A (handleBy Ğ X.env j) Åt X.xe s
def adF:TH:=λ_ _ _ _ _ _ _=>False
def Sa:PH X [] adF:=λ_ _ _ _ _ _ _ _ _ _ _ _ _ h=>h.elim
def adG(C1:Addr)(ts:TS)(th:TH):TH:=λH0 a C od D σ H=>(C=C1->∀H',rB .none H0 a C od H'->ts D σ H')/\(C≠C1->th H0 a C od D σ H)
theorem SP.zy(ok:X.Ok)(h:SP (X.rE a) pins D f s'):SP X pins D f s':=by
 cases f with
 |next=>let(σ',H',I,q):=h;exact(σ',H',I.zy ok,q)
 |brk=>let(σ',H',I,q):=h;exact(σ',H',I.zy ok,q)
 |cont=>let(σ',H',I,q):=h;exact(σ',H',I.zy ok,q)
 |ret u=>let(v,σ',H',I,r,q):=h;exact(v,σ',H',I.zy ok,r,q)
section
variable{X:Cx}{C1 N1:Addr}{x:Str}{p pos:Pos}{b0:Stmt}{Sb:List Stmt}{bQ:List ExceptHandler}{ts:TS}{th:TH}
def BP(M:XC X.K C1 N1)(W:Gl X x)(Z:X.mg x=some (.ref C1))(hs:∀a,k9 (X.rE a) (b0::Sb) ts)(hr:PH X bQ th)(ja:(x==("__debug__":Str))=false:=by decide):
  PH X (.ExceptHandler (some ώ) none (b0::Sb) pos::bQ) (adG C1 ts th):=by
 intro pins s σ H H0 a C N od D I c f h;apply wpAny_handleBy_cons (codeAny_handlers_test (vJ (X:=X.rE a) (I.rE a) W Z ?_ ja)) (by intro q;cases q);let(nm,qn,bs,sn,sub,ab,col,dd,k0,k1,k2,k3,k5,cls):=c.obj;let(RU,qn',RV,RW,RX,RY,RZ,sQ,R1,R3,R4,R7,R8,j):=M.obj;let(F,_):=cls s.heap I.fO;let(O,_):=j s.heap I.fO;let(T,U,kp,ne,xV,hT):=id f;let(o,G,J,q2,wc,q3,q4):=qj I.ax U;by_cases e:C=C1
 .subst e;let(Y,g,d,tk,os):=s;apply wpAny_excMatches_sub_self F G J Ù ?_;apply codeAny_handlers_suite ?_;apply BN (X:=X) none I f λs' H' m S=>?_;refine i6 (hs a pins s' σ H' D (m.rE a) (h.1 Á H' S)) (λfl s2 q=>q.zy m.ok) λ_ _ z=>False.elim z
 .let(Y,g,d,tk,os):=s;apply adC F O G J e ?_;exact hr pins _ σ H H0 a C N od D I c f (h.2 e)
end
def Sd(X:Cx)(G:List Stmt)(tb:XK->TS):Prop:=
 ∀(pins:bJ)(s:Sh)(σ:St)(H:Hp)(D:Ends)(E:XK),Ã H s->tb E D σ H->wpAny È X.A (execs G X.env) Åt
  (λe s'=>∃a C od H0 H',e=.ref a/\Ã H' s'/\rB .none H0 a C od H'/\(∀d,od=some d->d≠a)/\E ā od H0) s
def adI(K:FR)(th:TH)(D:Ends)(σ:St):XK:=λj od H0=>∃C N,j=.ref C/\XC K C N/\∀a H',(∀d,od=some d->d≠a)->rB .none H0 a C od H'->th H0 a C od D σ H'
def adJ(K:FR)(tb:XK->TS)(th:TH):TS:=λD σ H=>tb (adI K th D σ) D σ H
def Se(O:X.EN)(W:Sd X gV tb)(Y:PH X (U::hs) th):PS X (.Try gV (U::hs) [] [] pos) (adJ X.K tb th):=by
 intro pins s σ H D I h;apply wpAny_Try_except (i6 (W pins s σ H D _ I h) (λf Z q=>?_) λe Z q=>?_)
 .cases f with
  |next=>exact DJ q
  |brk=>exact q
  |cont=>exact q
  |ret v=>exact q
 .let(a,C,od,H0,H1,rfl,m,M,hd,C',N,J,c,hk):=q;cases J;apply EL O.1 O.2 O.2 m.ok.frames m M.at_ λs2 H2 z S=>?_;apply BN none z S λs3 j G F=>?_;exact Y pins s3 σ j H0 a C N od D G c F (hk a j hd F)
section
def Sf(hN:X.N.Nodup)(hi:X.N[i]? =some x)(hx:Loc X.env.scope x)(F:ú (fV X.prog X.w) k f fd ps sp)(hr:dy k X.A)(hg:Gl X g)(hm:X.mg g=some Ă)(hk:PySem.W.keepIn X.K Ă=true)(hb:ł [])(ha:PA X.vL (e::es) t)(hs:swapsWith (.Call Èh (e::es) [] pos) (some (.Name x px)) vV.line X.env=pure false:=by rfl) (hf:X.fn x=true\/X.env.scope.names.lookup x=some .local:=by first|exact .inl Á|exact .inr Á|assumption)(ja:(g==("__debug__":Str))=false:=by decide) (he:starEach (e::es) X.env=(false,eval e X.env)::starEach es X.env:=by rfl) (J:(backTo pos õ).any (·.1)=false:=by rfl):
  Sd X [.Assign [.Name x px] (.Call Èh (e::es) [] pos) vV] (λE=>y8 (ie sp [] E t) (p7 i)):=by
 intro pins s σ H D E I h;let gW:wpAny È X.A (eval (.Call Èh (e::es) [] pos) X.env) (ò λv H1=>D.nx Ľ H1) (λe s'=>∃a C od H0 H',e=.ref a/\Ã H' s'/\rB .none H0 a C od H'/\(∀d,od=some d->d≠a)/\E ā od H0) s:=by
  apply xo (vJ I hg hm ?_ ja);refine PySem.W.callWith_K (h₀:=X.base) I.ok.mod.sE hk (i6 (ha pos pins s σ H _ (I.iK _) h) (λU S ⟨vs,H1,I1,r,q⟩=>Áx) λ_ _ z=>False.elim z) he J;let I1:=I1.mf;let q:sp (vs++[]) H1 (λv H1=>D.nx Ľ H1) E:=q;rw[jV] at q;let hl:U.length=ps.length:=by rw[<-r.length];exact F.len _ _ _ _ q
  let m:=hb S U I1.fO É;rw[jV] at m;apply AR (vz (F.run X.A X.stack S H1 ⟨U,[]⟩ U vs _ E hr I1.zg m r q) λr s' j=>?_);cases r with
  |error e=>
   let(a,C,od,H0,H',M,O,Y,Z,e5,e6,e7,e8):=j;exact(a,C,od,H0,H',M,I1.vI (ch:=[]) O Z e5 Y ķ,e6,e7,e8)
  |ok fl=>
   cases fl with
   |ret u=>exact I1.after j
   |next=>exact False.elim j
   |brk=>exact False.elim j
   |cont=>exact False.elim j
 apply Pt (wpAny_Assign_Name (i6 gW (λv S ⟨y,H1,I1,r1,q1⟩=>?_) λ_ _ z=>z) hs);exact D6 I1 hN hi hx r1 (λs2 G=>DJ ⟨_,H1,G,q1⟩) hf
end
def BQ(K:FR)(a:Addr):It:=
 ⟨λi H=>∃(xs:au)(x:V),ũ a xs/\xs[i]? =some x,λi H v H'=>∃T x,v=.ref T/\H T=none/\H'=upd H T (.tup [.int (i:Nat),x])/\∀xs,ũ a xs->xs[i]? =some x,λi H=>∃xs:au,ũ a xs/\xs.length=i⟩
def JG(x:IsTup h a aj):h.IsTuple a aj:=x
def adK{P:Pg}{w:Wd}{K:FR}{nq:List Expr}{kk:Nat}{mx:Pos}(a e it:Addr):
  Turn P w K Ĭ (BQ K a) [e,it] e (λi h=>(∃F,IsEnum h e it ((i:Nat):Int) F)/\h.IsTupleIter it a i/\e≠it/\a≠it/\a≠e) where
 mem:=by simp
 obj:=λi h=>EG
 keep:=λi h h' st k=>let ⟨⟨F,j⟩,hi,aU⟩:=st;⟨⟨F,k e Ä _ j⟩,hi.at λo q=>k it Ä o q,aU⟩
 item:=by
  show Õ;subst hP hw hK;let Z:=EG st;let((F,j),Y,aU,G,O):=st;let(xs,x,M,U):=hg;let(J,rv,p,hz):=I.tuple M;let(u,hu,ru):=rv.get U;let EH:=c9 j;let S:X.A.in1.handled=none:=I.ok.hd hc;apply wpAny_pyNext_enum_itemD (Qh S it a G J.toArray) j ⟨Y,JG p⟩ (by simpa using (bH.mp hu).1) aU (by simp;exact(aU,d8 O)) λy h' tk W ho oP hT hsz hk=>?_;let ey:y=u:=by
   let q:=hu.symm.trans (À W);exact(aI q).symm
  subst ey;apply(_,Á,aql (s:={s with heap:=h',toks:=tk+1}) ho λqh BK sb=>?_);let uR:qh.get? s.heap.objs.size=some {cls:=.type "tuple",data:=.seq #[.int i tk,y]}:=(sb.2 _ (uq EH)).trans hT;let ⟨I1,n1⟩:=EF (x:=.int (i:Nat)) (t':=tk+1) Z hf (λb Z m q=>(sb.2 b (λz=>m (by simp[z]))).trans (hk b Z (λz=>m (by simp[z])) (λz=>m (by simp[z])) q)) I uR ⟨_,rfl⟩ ru;exact(.ref s.heap.objs.size,_,I1,Á,⟨_,x,Á,I.ax.fresh (bU _),Á,λys W=>by rw[I.Qq W M];exact U⟩,⟨⟨y,by rw[show((i+1:Nat):Int)=(i:Int)+1 by omega];exact BK⟩,oP.1.at λo q=>(sb.2 it År).trans q,aU,G,O⟩,n1)
 done:=by
  show Õ;subst hP hw hK;let((F,j),Y,aU,G,O):=st;let(xs,M,U):=hg;let(J,rv,p,hz):=I.tuple M;show ë;let hl:=rv.length;let S:X.A.in1.handled=none:=I.ok.hd hc;let en:i=J.toArray.size:=by
   rw[uw];omega
  subst en;exact wpAny_pyNext_enum_endD (Qh S it a G J.toArray) j ⟨Y,JG p⟩ λh' eb=>⟨Á,I.turned (t':=s.toks) (λb o m q=>eb b o m q) f0 f1 f3 f4 f5⟩
 self:=λA i s Q E st h=>let ⟨⟨_,j⟩,_⟩:=st;PQ j h
def adL(K:FR)(ta:TA):TI:=λσ H R=>ta σ H λvs H1=>∃a xs,vs=[.ref a]/\bw K H1 a xs/\R (BQ K a) H1
def Sg{X:Cx}{e:Expr}{ta:TA}{p pos mx:Pos}{nq:List Expr}{kk:Nat}(hg:Gl X "enumerate")(hm:X.mg "enumerate"=none)(G:PA X [e] ta)(hs:starEach [e] X.env=[(false,eval e X.env)]:=by rfl):
  PI X Ĭ (.Call (.Name "enumerate" p) [e] [] pos) (adL X.K ta):=by
 intro pins s σ H R I h;apply Call_ (Àk boot_enumerate (DK (aN (G pos pins s σ H _ I h) λus S ⟨vs,H1,I1,W,U⟩=>?_) hs Á));let(a,xs,ex,M,q):=U;subst ex;cases W with
 |cons r Y=>
  cases Y;cases r;let(Z,rv,z,hz):=I1.tuple M;let j:=z.lt;apply ZY (JG z) λh' m O hsz hk=>PQ m ?_;let F:Ã H1 {S with heap:=h'}:=I1.kept (t':=S.toks) hk;apply(S.heap.objs.size+1,[S.heap.objs.size+1,S.heap.objs.size],_,_,H1,Á,F,adK a (S.heap.objs.size+1) S.heap.objs.size,⟨⟨.none,m⟩,O,Nat.succ_ne_self _,ft j,ft (PJ j)⟩,λb J=>?_,q);let e':b=S.heap.objs.size+1\/b=S.heap.objs.size:=À J
  let iT:S.heap.objs.size<=b:=by
   grind
  exact I1.vM iT Çi
def adM{K:FR}{a:Addr}{xs:au}{g:TG}{tb:TS}{D:Ends}{σ:St}{H:Hp}(Pv:Nat->St->Hp->Prop)(h0:Pv 0 σ H)(S:∀i σ H,i<=xs.length->Pv i σ H->ä a xs)(hs:∀i x T σ H,xs[i]? =some x->Pv i σ H->H T=none->g Ů σ (Ϡ (.tup [.int (i:Nat),x])) λσ2 j=>tb {D with nx:=Pv (i+1),ct:=Pv (i+1),bk:=D.nx} σ2 j) (hd:∀σ H,Pv xs.length σ H->D.nx σ H):
  ∃W:Nat->Nat->St->Hp->Prop,(∃m,W 0 m σ H)/\∀i m σ H,W i m σ H->
   ((vZ K a).stop i H/\D.nx σ H)\/((vZ K a).go i H/\∃N:St->Hp->Prop,(∀σ' H',N σ' H'->∃M,M<m/\W (i+1) M σ' H')/\∀x H',(vZ K a).nJ i H x H'->g x σ H' λσ2 j=>tb {D with nx:=N,ct:=N,bk:=D.nx} σ2 j):=by
 refine î;rintro i m σ H ⟨rfl,hi,p⟩;let q:=S i σ H hi p;by_cases F:i<xs.length
 .apply .inr ⟨⟨xs,xs[i],q,by simp[F]⟩,Pv (i+1),λσ' H' U=>⟨xs.length-(i+1),by omega,rfl,F,U⟩,λx H' y=>?_⟩;let(T,z,G,I,J,O):=y;subst G J;exact hs i z T σ _ (O xs q) p I
 .let e:i=xs.length:=by omega
  subst e;exact .inl ⟨⟨xs,q,bU _⟩,hd σ H p⟩
def Si{K:FR}{a:Addr}{xs:au}{g:TG}{tb:TS}{D:Ends}{σ:St}{H:Hp}(Pv:Nat->St->Hp->Prop)(h0:Pv 0 σ H)(S:∀i σ H,i<=xs.length->Pv i σ H->ũ a xs)(hs:∀i x T σ H,xs[i]? =some x->Pv i σ H->H T=none->g Ů σ (Ϡ (.tup [.int (i:Nat),x])) λσ2 j=>tb {D with nx:=Pv (i+1),ct:=Pv (i+1),bk:=D.nx} σ2 j) (hd:∀σ H,Pv xs.length σ H->D.nx σ H):
  ∃W:Nat->Nat->St->Hp->Prop,(∃m,W 0 m σ H)/\∀i m σ H,W i m σ H->
   ((BQ K a).stop i H/\D.nx σ H)\/((BQ K a).go i H/\∃N:St->Hp->Prop,(∀σ' H',N σ' H'->∃M,M<m/\W (i+1) M σ' H')/\∀x H',(BQ K a).nJ i H x H'->g x σ H' λσ2 j=>tb {D with nx:=N,ct:=N,bk:=D.nx} σ2 j):=by
 refine î;rintro i m σ H ⟨rfl,hi,p⟩;let q:=S i σ H hi p;by_cases F:i<xs.length
 .apply .inr ⟨⟨xs,xs[i],q,by simp[F]⟩,Pv (i+1),λσ' H' U=>⟨xs.length-(i+1),by omega,rfl,F,U⟩,λx H' y=>?_⟩;let(T,z,G,I,J,O):=y;subst G J;exact hs i z T σ _ (O xs q) p I
 .let e:i=xs.length:=by omega
  subst e;exact .inl ⟨⟨xs,q,Á⟩,hd σ H p⟩
def adN{x:Str}{g:TG}{tt:TT}{te:TE}{vs:LN}{σ:St}{H1:Hp}{D:Addr}{Qd:Hp->Prop}(j:Nat->Hp->Prop)(I:j 0 Č)(hs:∀i c H,x.cps[i]? =some c->j i H->g (.str ⟨#[c]⟩) ĺ H λσ2 F=>wipe σ2 vs=wipe σ vs/\tt σ2 F λb z=>
   if b=true then te σ2 z (jX D (j (i+1))) else j (i+1) z) (hd:∀H,j x.cps.size H->Qd H):
  ∃W:Nat->Nat->Hp->Prop,(∃m,W 0 m Č)/\∀i m H,W i m H->
   ((BF x).stop i H/\Qd H)\/((BF x).go i H/\∃Nx:Hp->Prop,(∀H',Nx H'->∃M,M<m/\W (i+1) M H')/\∀y H',(BF x).nJ i H y H'->g y ĺ H' λσ2 F=>wipe σ2 vs=wipe σ vs/\tt σ2 F λb z=>
    if b=true then te σ2 z Æd else Nx z):=by
 apply(λi m H=>m=x.cps.size-i/\i<=x.cps.size/\j i H,⟨x.cps.size,by simp,dv _,I⟩,?_);rintro i m H ⟨rfl,hi,p⟩;by_cases G:i<x.cps.size
 .apply .inr ⟨G,j (i+1),λH' J=>⟨x.cps.size-(i+1),by omega,rfl,G,J⟩,λy H' q=>?_⟩;let(e,c,O,S):=q;symm
 .let e:i=x.cps.size:=by omega
  subst e;exact .inl ⟨bU _,hd H p⟩
section
variable{X:Cx}
def Sj{E:XK}{i:Nat}{y:Str}{py:Pos}{kI tg iter:Expr}{jC:List Expr}{scope:Scope}{own:List (Str×Nat)}{pos vV:Pos}{wi:TI}{g:TG}{tt:TT}{te:TE}(hc:X.calm=true)(ow:X.EN)(hN:X.N.Nodup)(hy:X.N[i]? =some y)(sP:X.env.scope.names.lookup y=some .local)(Bz:swapsWith à (some (.Name y py)) vV.line X.env=pure true) (hi:PI (X.xW E) tg iter wi) (ok:ĭ own)(hg:∀(s:Sh)(H:Hp)(C:Addr)(cl:e9)(fp:LA),PG Ð tg g) (ht:∀(s:Sh)(H:Hp)(C:Addr)(cl:e9)(fp:LA),xQ Ð jC tt)(he:∀(s:Sh)(H:Hp)(C:Addr)(cl:e9)(fp:LA),PE ((X.gw s H scope Àw fp).xW E) kI te) (hs:∀x,foldedSetIterable iter X.env x=pure x:=by intro _;rfl):
  PS (X.xW E) (.Assign [.Name y py] à vV) (y8 (By wi g tt te (own.map (·.2))) (p7 i)):=by
 apply Rw (Ex:=zw X E) (Eb:=λB=>zw B E) hc hN hy sP Bz hi ok hg ht he hs λ{use Qf}pins σ S H3 cl fp D e oU Z J hz=>?_;generalize lp:compEnvC scope cl S.heap.objs.size X.env=ce at hz;let cL:ce.locals=S.heap.objs.size:=by subst lp;rfl
 let(xa,xC,od,H0,Hx,σx,rfl,Ix,fx,iW,hE):=hz;apply EL (X:=X.gw S H3 scope ce fp) (en:=ce) ow.1 ow.2 (by rw[<-lp];exact ow.2) Z.ok.frames Ix fx λj I G Sk=>?_;let(m,O,_):=id G.loc;let O:=O;rw[cL] at O;let nC:I S.heap.objs.size=none:=by
  let z:=G.free;rw[cL] at z;exact z
 let gW:∃m,j.heap.Ns S.heap.objs.size m/\∀h',Heap.SameBut S.heap.objs.size j.heap h'->∀M:Env,M.locals=S.heap.objs.size->wpAny È X.A (passOn "comprehension.variables-let-go" (.ref xa) M:Sem Value) Äg (zw X E) {j with heap:=h'}:=by
  apply(m,O,λh' sb M _=>?_);let W:Ã I j:=Z.vI (ch:=fp) G.os G.base G.ax G.bare λb F=>⟨(J b F).1.2.2.2.1,(J b F).1.2.1,(J b F).1.2.2.2.2.1,(J b F).1.2.2.2.2.2⟩;let(g0,g1,g2,g3,g4,g5):=Z.vM (H':=I) (bU _) nC;let Sl:Ã I {j with heap:=h',toks:=j.toks}:=W.turned (t':=j.toks) (λb o F e=>(sb.2 b F).trans e) g0 g1 g3 g4 g5;let(T',BO,_):=id Sk;let(o',ge',q1',q2',wc,q3',q4'):=qj Sl.ax BO;delta PySem.passOn;apply aQ (vB ge' q3' q4' ?_);rw[ah (show ¬(Value.ref T'==Value.none)=true from eC)];apply aQ (BN M.frame Sl Sk λoX U Y f14=>wpAny_throw ?_);exact(xa,xC,od,H0,U,σ,Á,Y.JC,f14.at_,iW,hE)
 cases use <;> exact gW
end
end L2
end
section
namespace L2
open PySem PySem.Spec PyProof.Rows
theorem xX:∀xs ys:LI,PyData.eqvAll Ϥ (ys.map PyData.int)=decide (xs=ys)
 |[],[]=>by simp[PyData.eqvAll]
 |[],y::ys=>by simp[PyData.eqvAll]
 |x::xs,[]=>by simp[PyData.eqvAll]
 |x::xs,y::ys=>by
  simp only[aX,PyData.eqvAll,PyData.eqv,xX xs ys];by_cases h:x=y
  .subst h;simp
  .simp[h]
theorem Sm:∀xs:LI,PyData.canLayAll0 Ϥ=true:=by
 intro xs;induction xs with
 |nil=>exact Á
 |cons x xs I=>
  simp only[aX,PyData.canLayAll0,PyData.canLay0,I,PR]
theorem Sn:∀xs:LI,PyData.depthAll Ϥ<=1:=by
 intro xs;induction xs with
 |nil=>
  simp[PyData.depthAll]
 |cons x xs I=>
  let:=I;simp only[aX,PyData.depthAll,PyData.depth];omega
def shaped_ints(xs:LI):SeqAt.shaped (.list Ϥ)=true:=by
 delta SeqAt.shaped;rw[iU,lL];apply(Sm xs,?_);let:=Sn xs;simp only[PyData.depth];omega
theorem rF{K:FR}{H:Hp}:∀xs:LI,Áo Èl Ϥ:=by
 intro xs;induction xs with
 |nil=>exact .nil
 |cons x xs I=>
  exact .cons (.int x) I
inductive adV(K:FR)(x:V)(y:V)(H:Hp)(Q:VK):Prop
 |mk (a b:Addr) (xs ys:LI) (_:x=.ref a) (_:y=.ref b) (_:ä a Èl) (_:ä b (ys.map V.int)) (_:Q (.bl (decide (xs=ys))) H)
inductive adW(K:FR)(x:V)(y:V)(H:Hp)(Q:VK):Prop
 |mk (a b:Addr) (xs ys:LI) (_:x=.ref a) (_:y=.ref b) (_:ä a Èl) (_:ä b (ys.map V.int)) (_:Q (.bl (!decide (xs=ys))) H)
section
def adX(F:X.A.units+64<cLine):eW X Ám (adV X.K):=by
 intro pins s σ H x y v u Q I G J ⟨a,b,xs,ys,j,m,z,h2,q⟩;subst j m;apply Rj F pins s σ H _ _ v u Q I G J ⟨_,_,.lst z (rF xs),.lst h2 (rF ys),shaped_ints _,shaped_ints _,?_⟩;show Q (.bl (PyData.eqvAll _ _)) H;rw[xX];exact q
def So(F:X.A.units+64<cLine):eW X Áv (adW X.K):=by
 intro pins s σ H x y v u Q I G J ⟨a,b,xs,ys,j,m,z,h2,q⟩;subst j m;apply Ji F pins s σ H _ _ v u Q I G J ⟨_,_,.lst z (rF xs),.lst h2 (rF ys),shaped_ints _,shaped_ints _,?_⟩;show Q (.bl (!PyData.eqvAll _ _)) H;rw[xX];exact q
inductive Sq(K:FR)(x:V)(y:V)(H:Hp)(Q:VK):Prop
 |mk (a b xs:_) (_:x=.ref a) (_:y=.ref b) (_:ä a xs) (_:ä b []) (_:Q (.bl xs.isEmpty) H)
inductive adY(K:FR)(x:V)(y:V)(H:Hp)(Q:VK):Prop
 |mk (a b xs:_) (_:x=.ref a) (_:y=.ref b) (_:ä a xs) (_:ä b []) (_:Q (.bl (!xs.isEmpty)) H)
def Sr(r:bh xs aj)(j:bh [] its')(h:xs≠[]):(aj.toArray.size !=its'.toArray.size)=true:=by
 cases j;let:=r.length;grind
def xY(Y:X.A.units+64<cLine):eW X Ám (Sq X.K):=by
 intro pins s σ H x y v u Q I z F ⟨a,b,xs,S,U,j,h2,q⟩;subst S U;by_cases m:xs=[]
 .subst m;apply Rj Y pins s σ H _ _ v u Q I z F ⟨_,_,.lst j .nil,.lst h2 .nil,by rfl,by rfl,?_⟩;exact q
 .cases z;cases F;let(aj,r1,(o1,Z,W,G,_,M),_):=I.list j;let(its',r2,(o2,n2,g2,J,_,O),_):=I.list h2;apply SeqAt.eq_list_lengthsAt ⟨o1,W,G,Z,M⟩ ⟨o2,g2,J,n2,O⟩ (Sr r1 r2 m) Å ⟨.bl false,H,I,Á,?_⟩;grind
def zA(hu:X.A.units+64<cLine):eW X Áv (adY X.K):=by
 intro pins s σ H x y v u Q I S U ⟨a,b,xs,Y,Z,M,h2,q⟩;subst Y Z;by_cases O:xs=[]
 .subst O;apply Ji hu pins s σ H _ _ v u Q I S U ⟨_,_,.lst M .nil,.lst h2 .nil,by rfl,by rfl,?_⟩;exact q
 .cases S;cases U;let(W,r1,(o1,n1,J,j,_,z),_):=I.list M;let(its',r2,(o2,n2,g2,m,_,G),_):=I.list h2;let(cls,dd,data,sl):=o1;let(QS,mr,data2,nO):=o2;simp only at j z m G;subst j z m G;refine Px (op:=.NotEq) ⟨_,J,Á⟩ ⟨_,g2,Á⟩ F.slot_list_ne F.entry_list_ne (F.args_list_ne_2 _ _) (SeqAt.list_ne_lengthsAt a b W.toArray its'.toArray n1 n2 dd mr sl nO (Sr r1 r2 O))
   ⟨J,g2,(λx=>nomatch x),⟨.bl true,H,I,rfl,?_⟩⟩ Å
  grind
end
end L2
end
section
namespace L2
open PySem PySem.Spec PyProof.Rows PySem.XL
theorem adZ(x:Ày o):∃O,h.get? a=some O:=by
 cases o with
 |lst xs=>let(_,_,_,_,e):=x;exact(_,e)
 |tup xs=>let(_,_,_,O,e,_):=x;exact(O,e)
 |dK kvs=>let(_,_,_,_,o,_,_,e,_):=x;exact(o,e)
 |dT kvs=>let(_,_,_,_,o,_,_,e,_):=x;exact(o,e)
 |set S n=>let(o,_,_,_,e,_):=x;exact(o,e)
 |ins C dx fs=>let(_,_,_,e,_):=x;exact(_,e)
 |own y=>let(O,e):=x;exact(O,e)
 |xd fs=>let(_,(O,_,_,e,_),_):=x;exact(O,e)
 |sD lo hi=>let(_,_,_,e):=x;exact(_,e)
 |cz O u=>let(e,_):=x;exact(O,e)
 |gR ps=>exact(_,x)
 |met f y=>exact(_,x)
 |ext φ=>let(_,(O,e),_):=x;exact(O,e)
section
def ad0(C:Addr):TE:=λ_ H Q=>∀x,H x=none->Q š (Áj Ŕ)
def my(c:XC X.K C N)(Z:PySem.W.nsIn X.K N "__init__"=some none)(kp:PySem.W.keepIn X.K ā=true)(S:Gl X x)(U:X.mg x=some ā)(Y:(x==("__debug__":Str))=false:=by decide):
  PE X (.Call ώ [] [] pos) (ad0 C):=by
 show Ò;apply xo (vJ I S U ?_ Y);apply PySem.W.callWith_K0 I.fO kp ?_;let(nm,q,bs,sn,sub,ab,col,dd,k0,k1,k2,k3,k5,cls):=c.obj;let(J,M,_):=cls s.heap I.fO;let xw:=PySem.W.nsMap_none_of_in I.fO (JF c) Z;let j:=I;let(hh,g,d,tk,os):=s;apply wpAny_call_exc_sub PySem.F.excBase_Exception J M xw (λh' e m=>?_) Ä;let(t,O,_):=m.there;let ne:H e=none:=by
  cases z:H e with
  |none=>rfl
  |some u=>
   let(o,eo):=adZ (j.ax e u z);let nn:=m.new;symm
 apply(.ref e,_,j.EO (h2:=h') (t2:=tk) [e] (λb G=>?_) đ Àa (λb o G g=>m.keeps b o g) (λb hb o g=>⟨_,m.keeps b o g⟩),Á,h e ne)
 .let:b≠e:=by simpa using G
  rw[aq this]
 .let:b=e:=by simpa using hb
  subst this;exact .inl ⟨ne,m.new⟩
 .let:b=e:=by simpa using hb
  subst this;rw[ao] at hu;cases hu;exact sU O ⟨Á,Á,_,Á,Á⟩
end
section
def Dp.inj{pins:bJ}{σ:St}{H:Hp}{s:Sh}(I:Ã H s){d d':PyData}{v:V}(h:Dp X.K H v d):Dp X.K H v d'->d=d':=by
 let no:∀{a xs ys},Àz a xs->bw X.K H a ys->False:=λj S=>by
  let(_,_,(o1,n1,W,M,_,_),_):=I.list j;let(_,_,(o2,g2,G,_,_),_):=I.tuple S;rw[W] at g2;cases g2;rw[M] at G;exact absurd G Ê
 refine Dp.rec (motive_1:=λv d _=>∀d',Dp X.K H v d'->d=d') (motive_2:=λvs U _=>∀F,jd X.K H vs F->U=F)
  (λd' h=>by cases h;rfl) (λb d' h=>by cases h;rfl) (λi d' h=>by cases h;rfl) (λx d' h=>by cases h;rfl) (λj J z d' h=>?_) (λj J z d' h=>?_) (λd' h=>by cases h;rfl) (λ_ _ Y Z d' h=>?_) h d'
 .cases h with
  |lst S m=>
   let e:=I.Bh j S;subst e;rw[z _ m]
  |tup S m=>exact(no j S).elim
 .cases h with
  |tup S m=>
   let e:=I.Qq j S;subst e;rw[z _ m]
  |lst S m=>exact(no S j).elim
 .cases h with
  |cons O r2=>rw[Y _ O,Z _ r2]
def dataOf:List (Value×PyData)->Value->PyData
 |[],_=>.none
 |(u,d)::r,x=>if u=x then d else dataOf r x
inductive Su(K:FR)(x:V)(y:V)(H:Hp)(Q:VK):Prop
 |mk (p:Addr) (xs:au) (ds:List PyData) (dx:PyData) (_:y=.ref p) (_:ä p xs) (_:Áo xs ds) (_:Dp K H x dx) (_:(∀d∈ds,SeqAt.shaped d=true)) (_:SeqAt.shaped dx=true) (_:Q (.bl (ds.any λd=>PyData.eqv d dx)) H)
def Sv{pins:bJ}{σ:St}{H:Hp}{s:Sh}(I:Ã H s){xs:au}:∀{j:List PyData}{U:LV},jd X.K H xs j->bh xs U->
  ∀(i:Nat)(u:Value)(d:PyData),U[i]? =some u->j[i]? =some d->dataOf (U.zip j) u=d/\∃v,Dp X.K H v d/\RelV v u:=by
 induction xs with
 |nil=>
  intro j U hd m i u d h _;cases m;simp at h
 |cons x xs S=>
  intro j U hd m i u d F h2;cases hd with
  | @cons _ _ e j d1 r1=>
  cases m with
  | @cons _ w _ U v1 r2=>
  show(if w=u then e else dataOf (U.zip j) u)=d/\_;cases i with
  |zero=>
   let M:=aI F;let O:=aI h2;subst M O;exact(af Á,x,d1,v1)
  |succ i=>
   let(W,v,G,J):=S r1 r2 i u d F h2;apply(?_,v,G,J);by_cases z:w=u
   .subst z;rw[af rfl];let:x=v:=v1.inj J;subst this;exact Dp.inj I d1 G
   .rw[ah z];exact W
theorem Sw{K:FR}{H:Hp}{xs:au}:∀{j:List PyData},Áo xs j->xs.length=j.length:=by
 induction xs with
 |nil=>intro j h;cases h;rfl
 |cons x xs I=>
  intro j h;cases h with
  |cons _ r=>rw[dc,dc,I r]
theorem ad1{α β:Type}{f:α->Bool}{g:β->Bool}{xs:List α}:∀{ys:List β},xs.length=ys.length->(∀(i:Nat)x y,xs[i]? =some x->ys[i]? =some y->f x=g y)->xs.any f=ys.any g:=by
 induction xs with
 |nil=>
  intro ys h _;cases ys with
  |nil=>rfl
  |cons _ _=>simp at h
 |cons x xs I=>
  intro ys h k;cases ys with
  |nil=>simp at h
  |cons y ys=>rw[ux,ux,k 0 x y rfl rfl,I (À h) λi a b j h2=>k (i+1) a b j h2]
def JI(hu:X.A.units+128<cLine):eW X (compareOp .In) (Su X.K):=by
 intro pins s σ H x y v u Q I W Y ⟨p,xs,ds,dx,z,hs,hd,J,sd,Z,q⟩;subst z;cases Y;let(aj,r,pl,hz):=I.list hs;let(as,m):=Dp.reads I dx x v J W;let F:aj.length=ds.length:=by rw[<-r.length,Sw hd]
 apply SeqAt.in_listAt ŝ pl.isList (λw G=>?_) ⟨.bl _,H,I,Á,?_⟩
 .let(i,hi,e):=pQ (show w∈aj by simpa using G);let j:aj[i]? =some w:=by rw[cY hi,e]
  let h2:ds[i]? =some ds[i]:=cY Å;let(M,v',O,S):=Sv I hd r i w _ j h2;rw[M];let(bs,U):=Dp.reads I _ v' w O S;let sh:=sd _ (bI h2);apply SeqAt.eqAt_reads _ dx X.A.in1 s w v bs as U m (PU sh) (PU Z) ?_;let:=SeqAt.depth_of_shaped sh;show X.A.units+1+_<_;omega
 .rw[show aj.toArray.any ŝ=aj.any ŝ by simp];rw[ad1 (g:=λd=>PyData.eqv d dx) F λi a b j h2=>by rw[(Sv I hd r i a b j h2).1]];exact q
end
end L2
end
section
namespace L2
open PySem PySem.Spec PyProof.Rows
def bc{K:FR}{H:Hp}{a C dx:Addr}{fs:List (Str×V)}{f:Str}{v:V}{Q:V->Prop}(h:H a=some ϝ)(c:lh K C)(n:ϭ f)(l:fs.lookup f=some v)(q:Q v):∃z j m zd F,V.ref a=.ref z/\H z=some (.ins j m zd)/\lh K j/\gJ K j f/\zd.lookup f=some F/\Q F:=⟨a,C,dx,fs,v,rfl,h,c,n,l,q⟩
def cu{N P:LS}{S:Scope}(k:S.kind=.function:=by rfl)(h:S.isCoroutine=false/\S.isGenerator=false/\N.Nodup/\N.take P.length=P/\(∀x∈P,S.names.lookup x=some .local\/S.names.lookup x=some .cell)/\∀y∈S.names,y.2≠ .free:=by decide+kernel):bO N P S:=⟨k,h.1,h.2.1,h.2.2.1,h.2.2.2.1,h.2.2.2.2.1,h.2.2.2.2.2⟩
abbrev jt:=List (Addr×HO)
def aV(H:Hp)(ns:jt):Prop:=∀x∈ns,H x.1=some x.2
def aV.same(h:aV H ns)(s:ai H H'):aV H' ns:=λx j=>s _ _ (h x j)
def aV.upd(h:aV H ns)(n:∀x∈ns,x.1≠D):aV (upd H D o) ns:=λx j=>by rw[aq (n x j)];exact h x j
def aV.nil:aV H []:=λx j=>absurd j Ä
def JJ(Z:Nat->V->jt->Prop)(H:Hp)(ys:au):Prop:=∀i y,ys[i]? =some y->∃ns,Z i y ns/\aV H ns
def zB(D:Addr)(Z:Nat->V->jt->Prop)(H:Hp)(ys:au):Prop:=∀i y,ys[i]? =some y->∃ns,Z i y ns/\aV H ns/\∀x∈ns,x.1≠D
def zB.fill(h:zB D Z H ys):JJ Z H ys:=λi y e=>let ⟨ns,a,b,_⟩:=h i y e;⟨ns,a,b⟩
def zB.snoc{D:Addr}{Z:Nat->V->jt->Prop}{H j:Hp}{ys:au}{y:V}{o:HO}{ns:jt}(h:zB D Z H ys)(s:ai H j)(z:Z ys.length y ns)(l:aV j ns)(n:∀x∈ns,x.1≠D):zB D Z (upd j D o) (ys++[y]):=λi v e=>by
 by_cases hi:i<ys.length
 .rw[HL hi] at e;let(S,a,b,c):=h i v e;exact(S,a,(b.same s).upd c,c)
 .rw[Pw Å] at e;let m:i-ys.length=0:=by
   cases z:i-ys.length with
   |zero=>rfl
   |succ k=>rw[z] at e;simp at e
  rw[m] at e;let:y=v:=À e
  subst this;let:i=ys.length:=by omega
  subst this;exact(ns,z,l.upd n,n)
def rG(s:ai H H1)(h:H p=none):ai H (L2.upd H1 p o):=λb u e=>by rw[aq (eQ e h)];exact s b u e
section
variable{K:FR}{g:TG}{tt:TT}{te:TE}{vs:LN}{σ:St}{H1:Hp}{D:Addr}{Qd:Hp->Prop}
def ck(H1:Hp)(D:Addr)(Z:Nat->V->jt->Prop)(i:Nat)(H:Hp):Prop:=∃ys,ai H1 H/\H D=some Ân/\ys.length=i/\zB D Z H ys
def ck.zero(j:H1 D=none):ck H1 D Z 0 Č:=⟨[],rG (λ_ _ e=>e) j,ao,rfl,λi y e=>by simp at e⟩
def ck.step(j:H1 D=none)(hi:i<1000000)(f:ck H1 D Z i H)(s:ai H H4)(z:Z i y ns)(l:aV H4 ns)(n:∀x∈ns,x.1≠D):
  jX D (ck H1 D Z (i+1)) y H4:=by
 let(ys,S,hd,m,fd):=f;subst m;refine⟨ys,s _ _ hd,iB hi (by rw[xl];decide),ys++[y],rG (S.trans s) j,ao,by simp,fd.snoc s z l n⟩
def ck.same(f:ck H1 D Z i H):ai H1 H:=let ⟨_,s,_⟩:=f;s
def ck.has(f:ck H1 D Z i H):H D≠none:=let ⟨_,_,e,_⟩:=f;by rw[e];simp
def ck.end(f:ck H1 D Z i H):∃ys,ai H1 H/\H D=some Ân/\ys.length=i/\JJ Z H ys:=let ⟨ys,a,b,c,d⟩:=f;⟨ys,a,b,c,d.fill⟩
def lY{a:Addr}{xs:au}(j:Nat->Hp->Prop)(Y:j 0 Č)(Z:∀i H,i<=xs.length->j i H->ä a xs)(hs:∀i x T H,xs[i]? =some x->j i H->H T=none->g Ů ĺ (Ϡ (.tup [.int (i:Nat),x])) λσ2 G=>wipe σ2 vs=wipe σ vs/\tt σ2 G λb F=>
   if b=true then te σ2 F (jX D (j (i+1))) else j (i+1) F) (hd:∀H,j xs.length H->Qd H):
  ∃W:Nat->Nat->Hp->Prop,(∃m,W 0 m Č)/\∀i m H,W i m H->
   ((vZ K a).stop i H/\Qd H)\/((vZ K a).go i H/\∃Nx:Hp->Prop,(∀H',Nx H'->∃M,M<m/\W (i+1) M H')/\∀x H',(vZ K a).nJ i H x H'->g x ĺ H' λσ2 G=>wipe σ2 vs=wipe σ vs/\tt σ2 G λb F=>
    if b=true then te σ2 F Æd else Nx F):=by
 apply(λi m H=>m=xs.length-i/\i<=xs.length/\j i H,⟨xs.length,by simp,dv _,Y⟩,?_);rintro i m H ⟨rfl,hi,p⟩;let q:=Z i H hi p;by_cases I:i<xs.length
 .apply .inr ⟨⟨xs,xs[i],q,by simp[I]⟩,j (i+1),λH' p'=>⟨xs.length-(i+1),by omega,rfl,I,p'⟩,λx H' y=>?_⟩;let(T,z,J,O,S,U):=y;subst J S;exact hs i z T _ (U xs q) p O
 .let e:i=xs.length:=by omega
  subst e;exact .inl ⟨⟨xs,q,bU _⟩,hd H p⟩
end
def and_val{z tB:TT}{σ:St}{H:Hp}{Q:Bool->Hp->Prop}(j m:Bool)(F:∀K:Bool->Hp->Prop,K j H->z σ H K)(G:j=true->∀K:Bool->Hp->Prop,K m H->tB σ H K)(h:Q (j&&m) H):Ea z tB σ H Q:=
 F _ (by
  cases j with
  |false=>exact h
  |true=>exact G Á _ h)
def or_val{z tB:TT}{σ:St}{H:Hp}{Q:Bool->Hp->Prop}(j m:Bool)(F:∀K:Bool->Hp->Prop,K j H->z σ H K)(G:j=false->∀K:Bool->Hp->Prop,K m H->tB σ H K)(h:Q (j||m) H):IB z tB σ H Q:=
 F _ (by
  cases j with
  |true=>exact h
  |false=>exact G Á _ h)
def Sx{z tB:TE}{σ:St}{H:Hp}{Q:VK}(j m:Bool)(F:∀K:VK,K (.bl j) H->z σ H K)(G:j=false->∀K:VK,K (.bl m) H->tB σ H K)(h:Q (.bl (j||m)) H):ID z tB σ H Q:=
 F _ ⟨j,rfl,by
  cases j with
  |true=>exact h
  |false=>exact G Á _ h⟩
def EV(c:Bool)(v:V)(m:∀K:Bool->Hp->Prop,K c H->tA σ H K)(j:c=true->∀K:VK,K v H->ta σ H K)(h2:c=false->∀K:VK,K v H->tb σ H K)(h:Q v H):xA tA ta tb σ H Q:=
 m _ (by
  cases c with
  |true=>exact j Á _ h
  |false=>exact h2 Á _ h)
def Sy{D}(c:Bool)(v:V)(m:∀K:Bool->Hp->Prop,K c H->tA σ H K)(j:c=true->∀K:VK,K v H->ta σ H K)(h2:c=false->∀K:VK,K v H->tb σ H K)(h:D.nx Ľ H):y8 (xA tA ta tb) (p7 i) D σ H:=
 EV c v m j h2 h
def Sz{i:Nat}{v:V}{σ:St}{H:Hp}{t u:TS}{D}(h:t {D with nx:=u D} Ľ H):p7 i v σ H (IE t u D):=h
section
variable{K:FR}{g:TG}{tt:TT}{te:TE}{vs:LN}{σ:St}{H1:Hp}{D:Addr}{Qd:Hp->Prop}
def ad3(j:Nat->Hp->Prop)(I:j 0 Č)(J:∀i H,i<=kvs.length->j i H->H d=some Ϫ)(hs:∀i k v T H,kvs[i]? =some (k,v)->j i H->H T=none->g Ů ĺ (Ϡ Çv) λσ2 F=>wipe σ2 vs=wipe σ vs/\tt σ2 F λb z=>
   if b=true then te σ2 z (jX D (j (i+1))) else j (i+1) z) (hd:∀H,j kvs.length H->Qd H):
  ∃W:Nat->Nat->Hp->Prop,(∃m,W 0 m Č)/\∀i m H,W i m H->
   ((vY d o kvs).stop i H/\Qd H)\/((vY d o kvs).go i H/\∃Nx:Hp->Prop,(∀H',Nx H'->∃M,M<m/\W (i+1) M H')/\∀x H',(vY d o kvs).nJ i H x H'->g x ĺ H' λσ2 F=>wipe σ2 vs=wipe σ vs/\tt σ2 F λb z=>
    if b=true then te σ2 z Æd else Nx z):=by
 apply(λi m H=>m=kvs.length-i/\i<=kvs.length/\j i H,⟨kvs.length,by simp,dv _,I⟩,?_);rintro i m H ⟨rfl,hi,p⟩;let q:=J i H hi p;by_cases G:i<kvs.length
 .apply .inr ⟨⟨q,G⟩,j (i+1),λH' O=>⟨kvs.length-(i+1),by omega,rfl,G,O⟩,λx H' y=>?_⟩;let(T,k,v,S,U,Y,Z):=y;symm
 .let e:i=kvs.length:=by omega
  subst e;exact .inl ⟨⟨q,bU _⟩,hd H p⟩
end
section
variable{K:FR}{g:TG}{tb:TS}{D:Ends}{σ:St}{H:Hp}
def ad4{d:Addr}{o:Obj}{kvs:List (Key×V)}(j:Nat->St->Hp->Prop)(G:j 0 σ H)(I:∀i σ H,i<=kvs.length->j i σ H->H d=some Ϫ)(hs:∀i k v T σ H,kvs[i]? =some (k,v)->j i σ H->H T=none->g Ů σ (Ϡ Çv) λσ2 z=>tb {D with nx:=j (i+1),ct:=j (i+1),bk:=D.nx} σ2 z) (hd:∀σ H,j kvs.length σ H->D.nx σ H):
  ∃W:Nat->Nat->St->Hp->Prop,(∃m,W 0 m σ H)/\∀i m σ H,W i m σ H->
   ((vY d o kvs).stop i H/\D.nx σ H)\/((vY d o kvs).go i H/\∃N:St->Hp->Prop,(∀σ' H',N σ' H'->∃M,M<m/\W (i+1) M σ' H')/\∀x H',(vY d o kvs).nJ i H x H'->g x σ H' λσ2 z=>tb {D with nx:=N,ct:=N,bk:=D.nx} σ2 z):=by
 apply(λi m σ H=>m=kvs.length-i/\i<=kvs.length/\j i σ H,⟨kvs.length,by simp,dv _,G⟩,?_);rintro i m σ H ⟨rfl,hi,p⟩;let q:=I i σ H hi p;by_cases F:i<kvs.length
 .apply .inr ⟨⟨q,F⟩,j (i+1),λσ' H' J=>⟨kvs.length-(i+1),by omega,rfl,F,J⟩,λx H' y=>?_⟩;let(T,k,v,O,S,U,Y):=y;symm
 .let e:i=kvs.length:=by omega
  subst e;exact .inl ⟨⟨q,bU _⟩,hd σ H p⟩
def ad5{d:Addr}{o:Obj}{kvs:List (Key×V)}(j:Nat->St->Hp->Prop)(G:j 0 σ H)(I:∀i σ H,i<=kvs.length->j i σ H->H d=some Ϫ)(hs:∀i k v σ H,kvs[i]? =some (k,v)->j i σ H->g v σ H λσ2 z=>tb {D with nx:=j (i+1),ct:=j (i+1),bk:=D.nx} σ2 z) (hd:∀σ H,j kvs.length σ H->D.nx σ H):
  ∃W:Nat->Nat->St->Hp->Prop,(∃m,W 0 m σ H)/\∀i m σ H,W i m σ H->
   ((BG d o kvs).stop i H/\D.nx σ H)\/((BG d o kvs).go i H/\∃N:St->Hp->Prop,(∀σ' H',N σ' H'->∃M,M<m/\W (i+1) M σ' H')/\∀x H',(BG d o kvs).nJ i H x H'->g x σ H' λσ2 z=>tb {D with nx:=N,ct:=N,bk:=D.nx} σ2 z):=by
 apply(λi m σ H=>m=kvs.length-i/\i<=kvs.length/\j i σ H,⟨kvs.length,by simp,dv _,G⟩,?_);rintro i m σ H ⟨rfl,hi,p⟩;let q:=I i σ H hi p;by_cases F:i<kvs.length
 .apply .inr ⟨⟨q,F⟩,j (i+1),λσ' H' J=>⟨kvs.length-(i+1),by omega,rfl,F,J⟩,λx H' y=>?_⟩;let(O,k,S):=y;symm
 .let e:i=kvs.length:=by omega
  subst e;exact .inl ⟨⟨q,bU _⟩,hd σ H p⟩
def SA{a b:Addr}{xs ys:au}(I:xs.length=ys.length)(Pv:Nat->St->Hp->Prop)(h0:Pv 0 σ H)(Z:∀i σ H,i<=xs.length->Pv i σ H->ä a xs/\ä b ys)(hs:∀i x y T σ H,xs[i]? =some x->ys[i]? =some y->Pv i σ H->H T=none->g Ů σ (Ϡ Çk) λσ2 j=>tb {D with nx:=Pv (i+1),ct:=Pv (i+1),bk:=D.nx} σ2 j) (hd:∀σ H,Pv xs.length σ H->D.nx σ H):
  ∃W:Nat->Nat->St->Hp->Prop,(∃m,W 0 m σ H)/\∀i m σ H,W i m σ H->
   ((BL K a b).stop i H/\D.nx σ H)\/((BL K a b).go i H/\∃N:St->Hp->Prop,(∀σ' H',N σ' H'->∃M,M<m/\W (i+1) M σ' H')/\∀x H',(BL K a b).nJ i H x H'->g x σ H' λσ2 j=>tb {D with nx:=N,ct:=N,bk:=D.nx} σ2 j):=by
 refine î;rintro i m σ H ⟨rfl,hi,p⟩;let(F,G):=Z i σ H hi p;by_cases z:i<xs.length
 .apply .inr ⟨⟨xs,ys,xs[i],ys[i],F,G,by simp[z],by simp[<-I,z]⟩,Pv (i+1),λσ' H' p'=>⟨xs.length-(i+1),by omega,rfl,z,p'⟩,λx H' y=>?_⟩;let(T,x1,y1,J,O,S,U,Y):=y;subst J S;exact hs i x1 y1 T σ _ (U xs F) (Y ys G) p O
 .let e:i=xs.length:=by omega
  subst e;exact .inl ⟨⟨xs,ys,F,G,.inl (bU _)⟩,hd σ H p⟩
end
section
variable{β:Type}(g:β->V)
def bC(t:List (Nat×β)):List (Key×V):=t.map λp=>((Sum.inl ((p.1:Nat):Int):Key),g p.2)
def b7(t:List (Nat×β))(s:Nat):Option β:=(t.find? λp=>decide (p.1=s)).map (·.2)
def eF(t:List (Nat×β))(s:Nat)(v:β):List (Nat×β):=if (t.any λp=>decide (p.1=s))=true then t.map (λp=>if p.1=s then (p.1,v) else p) else t++[(s,v)]
def SB(a b:Nat):decide ((Sum.inl ((a:Nat):Int):Key)=Sum.inl ((b:Nat):Int))=decide (a=b):=by
 grind
theorem zC(t:List (Nat×β)):∀(s:Nat),gh (bC g t) (Sum.inl ((s:Nat):Int))=(b7 t s).map g:=by
 induction t with
 |nil=>exact @λs=>Á
 |cons p t I=>
  intro s;let I:=I s;delta bC b7 gh at I⊢;rw[aX,kW,kW];rw[SB];cases decide (p.1=s) with
  |true=>rfl
  |false=>exact I
def ad6(t:List (Nat×β))(s:Nat):((bC g t).any λkv=>decide (kv.1=Sum.inl ((s:Nat):Int)))=t.any λp=>decide (p.1=s):=by
 delta bC;rw[PB];congr 1;funext p;exact SB p.1 s
def BU(t:List (Nat×β))(s:Nat)(v:β):putK (bC g t) (Sum.inl ((s:Nat):Int)) (g v)=bC g (eF t s v):=by
 delta putK eF;rw[ad6];split
 .delta bC;rw[cV,cV];apply kY λp _=>?_;grind
 .delta bC;simp
def xZ(t:List (Nat×β)):(bC g t).length=t.length:=by delta bC;rw[az]
theorem JK{t:List (Nat×β)}{i:Nat}{k:Key}{v:V}(h:(bC g t)[i]? =some (k,v)):∃s b,t[i]? =some (s,b)/\k=Sum.inl ((s:Nat):Int)/\v=g b:=by
 delta bC at h;rw[bz] at h;cases e:t[i]? with
 |none=>rw[e] at h;cases h
 |some p=>
  rw[e] at h;let h:=aI h;apply(p.1,p.2,Á,?_,?_)
  .exact(cJ Prod.fst h).symm
  .exact(cJ Prod.snd h).symm
theorem ql(t:List (Nat×β))(s:Nat):(t.any λp=>decide (p.1=s))=(b7 t s).isSome:=by
 induction t with
 |nil=>rfl
 |cons p t I=>
  delta b7 at I⊢;rw[ux,kW];cases e:decide (p.1=s) with
  |true=>rfl
  |false=>rw[PM];exact I
theorem EW(s j:Nat)(v:β):∀t:List (Nat×β),b7 (t.map λp=>if p.1=s then (p.1,v) else p) j=(b7 t j).map λx=>if j=s then v else x:=by
 intro t;induction t with
 |nil=>exact Á
 |cons p t I=>
  let I:=I;delta b7 at I⊢;rw[aX,kW,kW];let m:(if p.1=s then (p.1,v) else p).1=p.1:=by split <;> rfl
  rw[m];cases e:decide (p.1=j) with
  |false=>exact I
  |true=>
   let e:=su e;show some ((if p.1=s then (p.1,v) else p).2)=some (if j=s then v else p.2);rw[<-e];by_cases h:p.1=s
   .rw[af h,af h]
   .rw[ah h,ah h]
theorem ad7(t:List (Nat×β))(s j:Nat)(v:β)(h:b7 t s=none):b7 (t++[(s,v)]) j=if j=s then some v else b7 t j:=by
 induction t with
 |nil=>
  show((([(s,v)]:List (Nat×β)).find? λp=>decide (p.1=j)).map (·.2))=_;rw[kW];by_cases e:s=j
  .dsimp only;rw[eP e,af e.symm];rfl
  .dsimp only;rw[f7 e,ah λz=>e z.symm];rfl
 |cons p t I=>
  delta b7 at I h⊢;rw[kW] at h;rw[List.cons_append,kW,kW];cases es:decide (p.1=s) with
  |true=>rw[es] at h;cases h
  |false=>
   rw[es] at h;cases m:decide (p.1=j) with
   |false=>exact I h
   |true=>
    let m:=su m;let es:=aqn es;rw[ah λz=>es (m.trans z)]
theorem EX(t:List (Nat×β))(s j:Nat)(v:β):b7 (eF t s v) j=if j=s then some v else b7 t j:=by
 delta eF;rw[ql];cases e:b7 t s with
 |none=>
  exact ad7 t s j v e
 |some x=>
  rw[af (show(some x).isSome=true from rfl),EW];by_cases h:j=s
  .symm
  .symm
def SC(t:List (Nat×β))(s:Nat)(v:β):(eF t s v).length<=t.length+1:=by
 delta eF;grind
def SD(t:List (Nat×β))(s:Nat)(v:β):(eF t s v).map (·.1)=if (b7 t s).isSome=true then t.map (·.1) else t.map (·.1)++[s]:=by
 delta eF;rw[ql];split
 .rw[cV];apply kY λp _=>?_;grind
 .simp
def ad8{t:List (Nat×β)}{s:Nat}(h:b7 t s=none):s∉t.map (·.1):=by
 intro m;let(p,j,e):=cb.mp m;let q:(t.any λp=>decide (p.1=s))=true:=vD.mpr ⟨p,j,eP e⟩;rw[ql,h] at q;cases q
theorem EY{t:List (Nat×β)}{s:Nat}{v:β}(h:(t.map (·.1)).Nodup):((eF t s v).map (·.1)).Nodup:=by
 rw[SD];cases e:b7 t s with
 |some x=>exact h
 |none=>exact Jw h (ad8 e)
theorem zD{t:List (Nat×β)}(h:(t.map (·.1)).Nodup){s:Nat}{v:β}(j:(s,v)∈t):b7 t s=some v:=by
 induction t with
 |nil=>symm
 |cons p t I=>
  rw[aX,kO] at h;delta b7 at I⊢;grind
def x3(h:b7 t s=some v):(s,v)∈t:=by
 delta b7 at h;let(p,j,e):=yP.mp h;grind
theorem ad9(g:β->V):∀(t j:List (Nat×β)),((j++t).map (·.1)).Nodup->uP (bC g j) (bC g t)=bC g (j++t):=by
 intro t;induction t with
 |nil=>
  intro j _;rw[jV];rfl
 |cons p t I=>
  intro j h;let h2:p.1∉j.map (·.1):=by
   rw[bZ,aX] at h;let:=(PV.mp h).2.2;exact λm=>this _ m _ fG Á
  let e:b7 j p.1=none:=by
   cases e:b7 j p.1 with
   |none=>rfl
   |some x=>exact absurd (cb.mpr ⟨_,x3 e,Á⟩) h2
  let I:=I (j++[p]) (by rw[sv];exact h);let ep:putK (bC g j) (Sum.inl ((p.1:Nat):Int)) (g p.2)=bC g (j++[p]):=by
   rw[BU];delta eF;rw[ql,e];rfl
  show uP (putK (bC g j) (Sum.inl ((p.1:Nat):Int)) (g p.2)) (bC g t)=_;rw[ep,I,sv];rfl
end
section
variable{X:Cx}{pins:bJ}{σ:St}{H:Hp}{s:Sh}{a:Addr}{kvs:List (Key×V)}{k:Key}{d:V}{u r:Value}{A:Around}{E:VP}
def aea(I:Ã H s)(e:H a=some ē)(hl:kvs.length<sizeLine)(ry:RelV (kV k) u)(Z:RelV d r)(G:∀v,gh kvs k=some v->∀W s',Ã H s'->RelV v W->Q W s')(h2:gh kvs k=none->∀s',Ã (Ū (.dK (ō d))) s'->Q r s'):wpAny È A (call (.builtin "dict.setdefault") [.ref a,u,r]) Q E s:=by
 let(z,hd,vs,m,dd):=Ew I.ax e;let U:vs.length<=sizeLine:=by rw[<-m.length];exact z
 let Y:(ō d).length<=sizeLine:=by let:=BA kvs k d;omega
 apply DR PySem.F.slot_dict_setdefault dd.typeIs PySem.F.entry_dict_setdefault (PySem.F.args_dict_setdefault_3 _ _ _) (kt_meets_setdefault Ć a (vW ry) hd r) ⟨vs,dd,U,λv O=>?_,λM h' S hs=>?_⟩
 .let q:=m.val k;rw[O] at q;cases j:gh kvs k with
  |none=>rw[j] at q;exact q.elim
  |some y=>
   rw[j] at q;exact G y j v _ (I.tok _) q
 .let q:=m.val k;rw[M] at q;let j:gh kvs k=none:=by
   cases j:gh kvs k with
   |none=>rfl
   |some y=>rw[j] at q;exact q.elim
  apply h2 j _ ?_;let J:∃q,h'.get? a=some q:=let ⟨q,_,_,hq,_⟩:=S;⟨q,hq⟩;exact Jq I (by rw[e];exact True.intro) hs J (Rz Y hd (m.put k Z) S)
end
def aeb(td G F:TE):TE:=λσ H Q=>td σ H λx H1=>∃a,x=.ref a/\Ez H1 a/\G σ H1 λy m=>F σ m λz j=>∃kvs k,j a=some ē/\y=kV k/\kvs.length<sizeLine/\(∀v,gh kvs k=some v->Q v j)/\(gh kvs k=none->Q z (upd j a (.dK (ō z))))
section
def aec(ho:PE X o td)(he:Ϣ ty)(hf:PE X f tx)(m:M2 X o "setdefault" i5 e f gf):PE X (.Call (.Attribute o "setdefault" i5) [e,f] [] gf) (aeb td ty tx):=by
 show Ò;apply HR m.base m.dg m.line PySem.F.plainAttrs_dict PySem.F.slot_dict_setdefault PySem.F.type_dict_setdefault (aN (ho pins s σ H _ I h) λu s1 ⟨x,H1,G,rx,a,ex,d,q1⟩=>?_);subst ex;obtain rfl:u=Value.ref a:=rx;let(t1,t2,_):=Js G d;refine Èi;rw[m.trees];refine HM Á (Pz (DL (aN (he pins s1 σ H1 _ G q1) λiv s2 ⟨y,M,S,ry,q2⟩=>
  DL (aN (hf pins s2 σ M _ S q2) λfv s3 ⟨z,O,U,J,kvs,k,W,Z,hl,q3,q4⟩=>Pu ?_))))
 subst Z;exact aea U W hl ry J (λv Y w' s4 j jc=>⟨_,O,j,jc,q3 v Y⟩) λen s4 j=>⟨_,_,j,J,q4 en⟩
end
section
variable{prog:Pg}{w:Wd}{Kt:Type}[DecidableEq Kt]
def aed(knd:KeyKind prog w Kt)(a b:Addr)(M:(a==sysModules)=false)(O:(b==sysModules)=false):
  MeetsIn prog w (Builtin.«dict.__eq__» ⟨[.ref a,.ref b],[]⟩) (λ_ R s=>∃vs:List (Kt×Value),s.heap.DictOf knd a vs/\s.heap.DictOf knd b []/\R (.ok (.ret (.bool vs.isEmpty))) s):=
 .of_wp λA R s ⟨vs,F,m,h⟩=>by
  show wpAny _ _ (Builtin.Dict.dictSlotArgs "__eq__" ⟨[.ref a,.ref b],[]⟩ >>= _) _ _ s;apply aQ ?_;delta Builtin.Dict.dictSlotArgs;apply aQ (wpAny_notOrdered_dict F.typeIs ?_);show wpAny _ _ (pure (Value.ref a,Value.ref b)) _ _ s;apply di ?_;apply aQ (wpAny_isInstance (b:=true) m.typeIs Ô ?_);show wpAny _ _ (Builtin.Dict.samePairs "dict.__eq__" a b >>= _) _ _ s;let(o,es,ep,G,g2,z,Y,J,Z):=F;let(o2,j,W,k1,k2,k3,k4,k5,k6):=m;let S:es.size=vs.length:=by
   let:=J.length
   rwa [xm] at this
  let U:j.size=0:=by
   let:=k5.length
   rwa [xm] at this
  apply aQ ?_;delta Builtin.Dict.samePairs;delta Builtin.Dict.showsAll;rw[ah (by rw[M];exact eC),ah (by rw[O];exact eC)];apply aQ (di (aQ (di (aQ (wpAny_dictEntries G z ?_)))));dsimp only;apply aQ (wpAny_dictEntries k1 k3 ?_);rw[S,U];cases vs with
  |nil=>
   rw[ah Ä];let fin:wpAny Ó A.in1 (pure true) (λa s'=>wpAny Ó A.in1 (ret (Value.bool (a==true))) (λfin s'=>∃v,fin=Fin.done (Flow.ret v)/\R (Except.ok (Flow.ret v)) s') (λe s'=>R (Except.error e) s') s') (λe s'=>R (Except.error e) s') s:=di (di ⟨_,rfl,h⟩);apply aQ (wpAny_dictEpoch G z ?_);rw[show(([]:List (Kt×Value)).length)=0 from rfl];let I:∀(f:Nat->Option Bool×Unit->Sem (ForInStep (Option Bool×Unit))),(forIn [:0] ((none,()):Option Bool×Unit) f:Sem _)=pure (none,()):=λf=>by
    simp
   rw[I];exact aQ (di fin)
  |cons p r=>
   rw[af Ä];exact aQ (wpAny_rule (di (di ⟨_,Á,h⟩)))
end
section
inductive aef(x:V)(y:V)(H:Hp)(Q:VK):Prop
 |mk (a b kvs:_) (_:x=.ref a) (_:y=.ref b) (_:H a=some ē) (_:H b=some Àv) (_:Q (.bl kvs.isEmpty) H)
def aeg(hu:X.A.units+64<cLine):eW X Ám aef:=by
 intro pins s σ H x y v u Q I Y Z ⟨a,b,kvs,G,J,W,h2,q⟩;subst G J;cases Y;cases Z;let(z,hd,vs,U,dd):=Ew I.ax W;let(z2,S,vs2,j,M):=Ew I.ax h2;cases j;let O:vs.isEmpty=kvs.isEmpty:=by cases U <;> rfl
 show wpAny È X.A (richCompare .Eq Ğ (.ref b)) _ _ s;let m:s.TypeIs Ğ "dict":=dd.typeIs;let hc:wpAny È X.A (call (.builtin "dict.__eq__") [.ref a,.ref b]) (λv s'=>v≠ .notImplemented/\(ò Q v s')) X.xe s:=
  DR PySem.F.slot_dict_eq m PySem.F.entry_dict_eq (PySem.F.args_dict_eq_2 _ _) (aed Ć a b hd S) ⟨vs,dd,M,(λz=>(by cases z)),.bl vs.isEmpty,H,I,rfl,by rw[O];exact q⟩
 exact wpAny_richCompare_same_room m M.typeIs PySem.F.slot_dict_eq hc Å
end
theorem aej{α β:Type}{R:α->β->Prop}{m:List α}:∀{j:List β},m.length=j.length->(∀(i:Nat)(a:α)(b:β),m[i]? =some a->j[i]? =some b->R a b)->Paired R m j:=by
 induction m with
 |nil=>
  intro j z _;cases j with
  |nil=>exact .nil
  |cons _ _=>cases z
 |cons a m I=>
  intro j z h;cases j with
  |nil=>cases z
  |cons b j=>exact .cons (h 0 a b Á Á) (I (À z) λi x y F h2=>h (i+1) x y F h2)
section
def aek:lS X (.type "range") (λxs H Q=>∃n:Nat,xs=[.int ((n:Nat):Int)]/\∀p,H p=none->Q ĥ (upd H p (.sD 0 n))):=by
 intro pins s σ H xs U Q I r h;let(n,rfl,q):=h;let(u,rfl,j):=vals1 r;let(t,rfl):=j;apply call_range_1 ?_;exact(.ref s.heap.objs.size,_,I.laid Åu (bU _) (show fJ X.prog X.w _ _ _ (.sD 0 ((n:Nat):Int)) from⟨_,_,_,iq _ rfl⟩),Á,q _ ī)
def ael(hc:X.calm=true):lS X (.type "list") (λxs H Q=>∃(p:Addr)(n:Nat),xs=[.ref p]/\H p=some (.sD 0 ((n:Nat):Int))/\n<=1000000/\∀l,H l=none->Q Åi (ϟ (.lst ((List.range n).map λi=>V.int ((i:Nat):Int))))):=by
 intro pins s σ H xs us Q I r h;let(p,n,rfl,M,Z,q):=h;let(u,rfl,W):=vals1 r;cases W;let(t,u,v,e):=(I.ax p _ M);apply call_list_range (n:=n) Ċ e (small_one Ù Ù Å Å) (by rw[rangeSize_one];split <;> omega) Å λh' tk S G hk J z=>?_;let U:bh ((List.range n).map λi=>V.int ((i:Nat):Int)) S.toList:=by
  apply aej (by rw[az,ib,xm,z.1]) λi a b m h2=>?_;rw[YU] at h2;let(t',O):=z.2 i b h2;rw[bz] at m;cases er:Èv[i]? with
  |none=>symm
  |some j=>
   rw[er] at m;let(Y,F):=bH.mp er;rw[aqp] at F;subst F;cases m;subst O;apply(t',?_);simp
 apply(.ref s.heap.objs.size,_,I.laid (t':=tk) hk (bU _) (show fJ X.prog X.w _ h' _ (.lst ((List.range n).map λi=>V.int ((i:Nat):Int))) from⟨?_,S.toList,G,U,J⟩),Á,q _ ī);rw[az,ib,xl];omega
end
abbrev qm:=eB×Addr×Value
def JL(acc bQ:List qm):List qm:=bQ.foldl (λa q=>storedH a q.1 q.2.1 q.2.2) acc
section
variable{prog:Pg}{w:Wd}
def SJ{h h':Heap}{k:eB}{a:Addr}(i:(tupleKind Åf).is h k a)(e:∀o,h.get? a=some o->h'.get? a=some o):(tupleKind Åf).is h' k a:=by
 let(o,j,n,m,h2,z,F):=i;exact(o,j,n,e o m,h2,z,F)
def aem{h h':Heap}{S:Addr}{xs:List qm}(d:h.DictOfH (tupleKind Åf) S xs)(e:∀o,h.get? S=some o->h'.get? S=some o)(M:∀x∈xs,∀o,h.get? x.2.1=some o->h'.get? x.2.1=some o):h'.DictOfH (tupleKind Åf) S xs:=by
 let(o,es,ep,m,z,F,G,I,J):=d;exact(o,es,ep,e o m,z,F,G,λx j=>SJ (I x j) (M x j),J)
def aen{xs:List qm}{k:eB}{a:Addr}{v:Value}{x:qm}(h:x∈storedH xs k a v):x.2.1=a\/∃y∈xs,x.2.1=y.2.1:=by
 delta storedH at h;split at h
 .let(y,j,e):=cb.mp h;apply .inr ⟨y,j,?_⟩;delta putAt at e;split at e <;> rw[<-e]
 .rcases gQ.mp h with h|h
  .exact .inr ⟨x,h,Á⟩
  .let:x=(k,a,v):=by simpa using h
   exact .inl (by rw[this])
def aeo(xs:List qm)(k:eB)(a:Addr)(v:Value):(storedH xs k a v).length<=xs.length+1:=by
 delta storedH;grind
end
def rH(kvs:List (eB×V))(ts:List (eB×Addr×V)):List (eB×V):=ts.foldl (λacc t=>putK acc t.1 t.2.2) kvs
theorem aep(ts:List (eB×Addr×V)):∀(kvs:List (eB×V)),(rH kvs ts).length<=kvs.length+ts.length:=by
 induction ts with
 |nil=>exact @λkvs=>bU _
 |cons t ts I=>
  intro kvs;let j:=I (putK kvs t.1 t.2.2);let h2:=BA kvs t.1 t.2.2;show(rH (putK kvs t.1 t.2.2) ts).length<=_;rw[dc];omega
theorem aeq{H:Hp}:∀{ts:List (eB×Addr×V)}{prs:List qm}{kvs:List (eB×V)}{xs:List qm},Paired (λ(t:eB×Addr×V)(q:qm)=>t.1=q.1/\t.2.1=q.2.1/\H t.2.1=some (.tup (t.1.map kV))/\RelV t.2.2 q.2.2) ts prs->KT H kvs xs->KT H (rH kvs ts) (JL xs prs):=by
 intro ts prs kvs xs j;induction j generalizing kvs xs with
 |nil=>exact λk=>k
 | @cons t q ts prs h r ih=>
  intro k;let(m,h2,z,F):=h;apply ih (kvs:=putK kvs t.1 t.2.2) (xs:=storedH xs q.1 q.2.1 q.2.2) ?_;rw[<-m,<-h2];exact k.put t.1 z F
section
variable{X:Cx}
def aer(hu:X.A.units+3<cLine)(Jv:X.calm=true):lS X (.type "dict") (λxs H Q=>∃(a:Addr)(ps:LA)(ts:List (eB×Addr×V)),xs=[.ref a]/\Àz a Âe/\Paired (λp(t:eB×Addr×V)=>H p=some (.tup [.ref t.2.1,t.2.2])/\H t.2.1=some (.tup (t.1.map kV))) ps ts/\
  ∀p,H p=none->Q ĥ (upd H p Çp)):=by
 intro pins s σ H xs us Q I r q;let(a,ps,ts,ex,hq,M,q):=q;subst ex;let(u,eu,rx):=vals1 r;subst eu;cases rx;let(aj,U,pl,S):=I.list hq;let F:=RH U;subst F;rw[az] at S;let m:∀{ps:LA}{ts:List (eB×Addr×V)},Paired (λp(t:eB×Addr×V)=>H p=some (.tup [.ref t.2.1,t.2.2])/\H t.2.1=some (.tup (t.1.map kV))) ps ts->
   ∃prs:List qm,Paired (λ(t:eB×Addr×V)(q:qm)=>t.1=q.1/\t.2.1=q.2.1/\H t.2.1=some (.tup (t.1.map kV))/\RelV t.2.2 q.2.2) ts prs/\prs.length=ps.length/\∀(j:Nat)(q:qm),prs[j]? =some q->∃b:Addr,ps[j]? =some b/\IsTup s.heap b #[.ref q.2.1,q.2.2]/\(tupleKind Ć).is s.heap q.1 q.2.1:=by
  intro ps ts M;induction M with
  |nil=>exact([],.nil,Á,λj q e=>by simp at e)
  | @cons p t ps ts h _ ih=>
   let(prs,r1,r2,r3):=ih;let(_,aj,U,ob,o1,o2,n,o3):=(I.ax p _ h.1);let(u,y,F,ru,ry):=vals2 U;subst F;cases ru;apply((t.1,t.2.1,y)::prs,.cons ⟨Á,Á,h.2,ry⟩ r1,by rw[dc,dc,r2],λj q e=>?_);cases j with
   |zero=>
    let e':=aI e;subst e';exact(p,Á,⟨ob,o1,o2,n,o3⟩,xS I.ax h.2)
   |succ j=>
    let(b,W,z):=r3 j q (À e);exact(b,À W,z)
 let(prs,Z,hl,gY):=m M;let(o,n,ho,hc,hd,uQ):=pl;refine RF (prs:=prs) (DD:=λh acc=>h.DictOfH Èo s.heap.objs.size acc/\∀x∈acc,x.2.1<s.heap.objs.size) (G:=λh q u y=>u=.ref q.2.1/\y=q.2.2/\q.2.1<s.heap.objs.size/\(tupleKind Ć).is h q.1 q.2.1) (st:=λa q=>storedH a q.1 q.2.1 q.2.2) (I.ok.hd Jv) ho hc hd uQ (by simp[hl]) Å ⟨Heap.DictOfH.new s.heap,by simp⟩ (λ_ _ _ d k=>⟨aem d.1 (λo e=>k _ o (bU _) e) λx O o e=>k _ o (pN (d.2 x O)) e,d.2⟩) (λ_ _ _ _ _ g k=>⟨g.1,g.2.1,g.2.2.1,SJ g.2.2.2 λo e=>k _ o g.2.2.1 e⟩)
  (λ_ acc q _ _ _ _ g d S k=>by
   let(rfl,rfl,g1,g2):=g;apply wpAny_dictSet_heap (knd:=tupleKind Ć) (DQ (pP (show X.A.units+1+1<=X.A.units+3 by omega) hu)) g2 d.1 (λh' J=>k h' _ ⟨J,λx O=>?_⟩) S;rcases aen O with e|⟨y,hy,e⟩
   .rw[e];exact g1
   .rw[e];exact d.2 y hy) (λa q=>aeo a q.1 q.2.1 q.2.2) Èj λh' tk pX k=>?_
 .let(b,W,z,Y):=gY j q' e;exact(b,_,_,by simp_all,z,rfl,rfl,by let(o,_,_,g,_):=Y;exact c9 g,Y)
 .let J:=xn.mpr (uq I.big);let cO:(rH [] ts).length<=sizeLine:=by
   apply ia (aep ts []) ?_;rw[sk,xq,Paired.length Z,hl];omega
  let qf:=I.ax.fresh (bU _);let((q2,es,ep,x4,g2,g3,g4,g5,g6),_):=pX;let kt:KT (ğ Çp) (rH [] ts) (JL [] prs):=(aeq Z (kvs:=[]) (xs:=[]) .nil).keeps λb ys e=>by
   rw[aq (eQ e qf)];omega
  exact(.ref s.heap.objs.size,ğ Çp,I.laid (t':=tk) k (bU _) (⟨cO,J,JL [] prs,kt,q2,es,ep,x4,g2,g3,g4,g6⟩),Á,q _ qf)
end
end L2
end
section
namespace HT
open PySem PyProof.Rows
section
open PySem.SeqAt
open PySem.AutoSeq1 (wpAny_loadPart')
open PySem.MeetsSeq PySem.MeetsSeq2 PySem.MeetsSeq3
def SK{items:Array Value}{i:Nat}{v:Value}{r:LV}(h:items.toList.drop i=v::r):items[i]? =some v/\items.toList.drop (i+1)=r:=by
 let j:(items.toList.drop i)[0]? =some v:=by rw[h];rfl
 rw[YY,YZ,YU] at j;apply(j,?_);let:(items.toList.drop i).drop 1=r:=by rw[h];rfl
 rw[List.drop_drop] at this;exact this
theorem aet(l b:Addr)(items I:Array Value)(n n2:Nat)(dd mr:OA)(sl nO:AO)(k:Nat):∀(i:Nat)(ns ms:LI),IntsAre (items.toList.drop i) ns->IntsAre (I.toList.drop i) ms->ns.length=k->i<=items.size->i<=I.size->
  Meets (Builtin.«list.__eq__.loop» ⟨[.ref l,.ref b,rawInt i,rawInt 0],[]⟩)
   (λ_ R s=>s.heap.get? l=some {cls:=.type "list",dict:=dd,data:=.seq items n,slots:=sl}/\s.heap.get? b=some {cls:=.type "list",dict:=mr,data:=.seq I n2,slots:=nO}/\
    R (.ok (.ret ύ)) s):=by
 induction k with
 |zero=>
  intro i ns ms hi J hk Y h2 prog w A R s h;let(O,g,d,tk,os):=s;let(m,j,h):=h;let M:ns=[]:=PY.mp hk;subst M;let F:=hi.length;let z:=J.length;rw[YT,xm] at F z;simp only[sk] at F;let G:items[((i:Nat):Int).toNat]? =none:=by simp;omega
  wp_walk using jm m,jm j
  rw[G]
  wp_walk using jm m,jm j
  show R (.ok (.ret (.bool (decide (items.size<I.size))))) _;let e:lexLt [] ms=decide (items.size<I.size):=by
   cases ms with
   |nil=>
    rw[QO];simp only[sk] at z;exact(f7 Å).symm
   |cons c ms=>
    rw[QP];simp only[dc] at z;exact(eP Å).symm
  rw[<-e];exact h
 |succ k ih=>
  intro i ns ms hi J hk Y h2 prog w A R s h;let(O,g,d,tk,os):=s;let(m,j,h):=h;let F:=hi.length;let z:=J.length;rw[YT,xm] at F z;generalize ed1:items.toList.drop i=d1 at hi;generalize ed2:I.toList.drop i=d2 at J;cases hi with
  |nil=>cases hk
  | @cons a t wc sM hi'=>
   let(S,g2):=SK ed1;let G:items[((i:Nat):Int).toNat]? =some (.int a t):=À S
   cases J with
   |nil=>
    let Z:I[((i:Nat):Int).toNat]? =none:=by simp only[sk] at z;simp;omega
    wp_walk using jm m,jm j
    rw[G,Z]
    wp_walk using jm m,jm j
    show R (.ok (.ret (.bool (decide (items.size<I.size))))) _;rw[QQ] at h;simp only[sk,dc] at F z;rw[f7 Å];exact h
   | @cons c u ws' mv EZ=>
    let(U,W):=SK ed2;let Z:I[((i:Nat):Int).toNat]? =some (.int c u):=À U
    let hc:((i:Int)+1)=((i+1:Nat):Int):=by push_cast;rfl
    let z1:i<items.size:=by simp only[dc] at F;omega
    let z2:i<I.size:=by simp only[dc] at z;omega
    rw[uL] at h
    wp_walk using jm m,jm j
    rw[G,Z];apply aQ (EqGives.int a c t u prog w _ _ _ _ ?_);cases nP:(a==c) with
    |true=>
     rw[af (À nP)] at h
     wp_walk
     rw[hc];exact⟨HS plain_eq_loop _,PN entry_eq_loop (by
      rw[PP plain_eq_loop _];exact ih (i+1) sM mv (by rw[g2];exact hi') (by rw[W];exact EZ) (À hk) z1 z2 prog w A R _ ⟨m,j,h⟩)⟩
    |false=>
     rw[ah (À nP)] at h
     wp_walk using jm m,jm j
     rw[G,Z];let rj:=IW A.in1 ⟨O,g,d,tk,os⟩ a t c u prog w
     wp_walk using rj
     exact h
def aev(l b:Addr)(items I:Array Value)(n z:Nat)(dd M:OA)(sl F:AO)(ns ms:LI)(hi:IntsAre items.toList ns)(G:IntsAre I.toList ms):
  Meets (Builtin.«list.__lt__» ⟨[.ref l,.ref b],[]⟩)
   (λ_ R s=>s.heap.get? l=some {cls:=.type "list",dict:=dd,data:=.seq items n,slots:=sl}/\s.heap.get? b=some {cls:=.type "list",dict:=M,data:=.seq I z,slots:=F}/\
    R (.ok (.ret ύ)) s):=by
 intro prog w A R s h;let(O,g,d,tk,os):=s;let(m,j,h):=h;let J:=AutoSeq1.sub_list_list
 wp_walk using jm m,jm j
 exact⟨HS plain_eq_loop _,PN entry_eq_loop (by
  rw[PP plain_eq_loop _];exact aet l b items I n z dd M sl F _ 0 ns ms hi G Á (dv _) (dv _) prog w A R _ ⟨m,j,h⟩)⟩
end
end HT
end
section
namespace HT
open PySem PyProof.Rows
section
open PySem.SeqAt
open PySem.AutoSeq1 (wpAny_loadPart')
open PySem.MeetsSeq PySem.MeetsSeq2 PySem.MeetsSeq3
def aew(l b la lb:Addr)(n n2:Nat)(dd mr:OA)(sl nO:AO)(a c:Int)(t u:Tok)(e r:Bool)(O:e=true->r=false):
  Meets (Builtin.«tuple.__lt__» ⟨[.ref l,.ref b],[]⟩)
   (λA R s=>s.heap.get? l=some {cls:=.type "tuple",dict:=dd,data:=.seq #[.int a t,.ref la] n,slots:=sl}/\s.heap.get? b=some {cls:=.type "tuple",dict:=mr,data:=.seq #[.int c u,.ref lb] n2,slots:=nO}/\
    EqAt A.in1 s Åd Åc e/\(∀(prog:Pg)(w:Wd)(E:VP)(Q:VP),Q (.bool r) s->wpAny Ó A.in1 (richCompare .Lt Åd Åc) Q E s)/\
    R (.ok (.ret (.bool (if a=c then r else decide (a<c))))) s):=
 .of_wp λprog w A R s h=>by
  let(z,g,d,tk,os):=s;let(Z,W,M,S,h):=h;let f2:=aqa
  wp_walk using jm Z,jm W,wpAny_forIn_list _ (λbQ b s'=>b.1=none/\s'=⟨z,g,d,tk,os⟩/\(bQ=[(Value.int a t,Value.int c u),(Value.ref la,Value.ref lb)]\/(bQ=[(Value.ref la,Value.ref lb)]/\a=c)\/(bQ=[]/\a=c/\e=true))) _
  case turn=>
   rintro⟨y,x⟩ bQ b s' ⟨F,rfl,j⟩;rcases j with j|⟨j,m⟩|⟨j,_⟩
   .injection j with hyx hrest;injection hyx with hy hx;subst hy hx;let(U,J,I):=QR A.in1 ⟨z,g,d,tk,os⟩ a t c u;apply aQ (J prog w _ _ ?_);cases U with
    |true=>
     wp_walk
     exact(Á,Á,.inr (.inl ⟨hrest,I.mp Á⟩))
    |false=>
     rw[ah (λq=>absurd (I.mpr q) eC)] at h;let G:=IW A.in1 ⟨z,g,d,tk,os⟩ a t c u prog w
     wp_walk using G
     exact(_,Á,À h)
   .injection j with hyx hrest;injection hyx with hy hx;subst hy hx;apply aQ (M prog w _ _ ?_);cases e with
    |true=>
     wp_walk
     exact(Á,Á,.inr (.inr ⟨hrest,m,Á⟩))
    |false=>
     rw[af m] at h;let G:=S prog w
     wp_walk using G
     exact(_,Á,À h)
   .cases j
  case fin=>
   rintro⟨b1,b2⟩ s' ⟨F,rfl,j⟩;simp only at F;subst F;rcases j with j|⟨j,m⟩|⟨j,m,Y⟩
   .cases j
   .cases j
   .rw[af m,O Y] at h
    wp_walk
    exact(_,Á,by simpa [Builtin.Tuple.tupleCompareSizes] using h)
  case h=>
   exact(Á,Á,.inl Á)
end
end HT
namespace L2
open PySem PySem.Spec PyProof.Rows
section
inductive SL(K:FR)(x:V)(y:V)(H:Hp)(Q:VK):Prop
 |mk (p q la lb:Addr) (a c:Int) (ns ms:LI) (_:x=.ref p) (_:y=.ref q) (_:ũ p [.int a,.ref la]) (_:ũ q [.int c,.ref lb]) (_:ä la Ŧ) (_:ä lb (ms.map V.int)) (_:Q (.bl (if a=c then HT.lexLt ns ms else decide (a<c))) H)
theorem aex:∀ns:LI,HT.lexLt ns ns=false:=by
 intro ns;induction ns with
 |nil=>exact Á
 |cons x ns I=>
  rw[HT.uL,af rfl];exact I
theorem SM{ns:LI}:∀{U:LV},bh Ŧ U->IntsAre U ns:=by
 induction ns with
 |nil=>
  intro _ r;cases r;exact .nil
 |cons n ns I=>
  intro _ r;cases r with
  |cons h t=>
   let(tk,rfl):=h;exact .cons n tk (I t)
def aey(hu:X.A.units+128<cLine):eW X Çu (SL X.K):=by
 intro pins s σ H x y v u Q I rx ry ⟨p,q,la,lb,a,c,ns,ms,e1,e2,hp,hq,h1,h2,k⟩;subst e1 e2;cases rx;cases ry;let(aj,rv,(o,ho,hc,n,hd),_):=I.tuple hp;let(nQ,zr,(o2,U,iV,n2,fh),_):=I.tuple hq;let(u1,u2,ei,r1,r2):=vals2 rv;let(w1,w2,m,r3,r4):=vals2 zr;subst ei m;let(t,rfl):=r1;let(t2,rfl):=r3;cases r2;cases r4;let(z,J,(p1,m1,g1,Y,d1,f1),_):=I.list h1;let(G,M,(p2,m2,g2,Z,d2,f2),_):=I.list h2;let i1:=SM J;let i2:=SM M;let(cls,yW,data,sl):=o;let(QS,j,data2,nO):=o2;let(aqZ,aq0,data3,S):=p1;let(aq1,aq2,aq3,O):=p2;simp only at hc hd iV fh Y d1 f1 Z d2 f2;subst hc hd iV fh Y d1 f1 Z d2 f2;let(as,ra):=Dp.reads I (.list (ns.map PyData.int)) Åd Åd (.lst h1 (rF ns)) rfl;let(bs,rb):=Dp.reads I (.list Äp) Åc Åc (.lst h2 (rF ms)) rfl;let W:SeqAt.EqAt X.A.in1 s Åd Åc (PyData.eqvAll (ns.map PyData.int) Äp):=by
  apply SeqAt.eqAt_reads _ (.list Äp) X.A.in1 s Åd Åc as bs ra rb (PU (shaped_ints ns)) (PU (shaped_ints ms)) ?_;let:=SeqAt.depth_of_shaped (shaped_ints ns);grind
 rw[xX] at W;let bW:∀(prog:Pg)(w:Wd)(E:VP)(Q:VP),Q (.bool ϡ) s->wpAny Ó X.A.in1 (richCompare .Lt Åd Åc) Q E s:=λprog w E Q h=>
  Px (op:=.Lt) ⟨_,g1,rfl⟩ ⟨_,g2,rfl⟩ PySem.F.slot_list_lt PySem.F.entry_list_lt (PySem.F.args_list_lt_2 _ _) (HT.aev la lb z.toArray G.toArray m1 m2 none none S O ns ms (by simpa using i1) (by simpa using i2))
   ⟨g1,g2,show Value.bool ϡ≠Value.notImplemented/\Q (.bool ϡ) s from⟨(λx=>nomatch x),h⟩⟩ (by show X.A.units+1<cLine;omega)
 let JN:decide (ns=ms)=true->HT.lexLt ns ms=false:=λe=>by
  let:ns=ms:=su e;rw[this];exact aex ms
 exact Px (op:=.Lt) ⟨_,ho,Á⟩ ⟨_,U,Á⟩ PySem.F.slot_tuple_lt PySem.F.entry_tuple_lt (PySem.F.args_tuple_lt_2 _ _) (HT.aew p q la lb n n2 yW j sl nO a c t t2 (decide (ns=ms)) ϡ JN)
  ⟨ho,U,W,bW,(λx=>nomatch x),.bl _,H,I,rfl,k⟩ Å
end
end L2
end
section
namespace L2
open PySem PySem.Spec PyProof.Rows
abbrev JO(fd:FD):Obj:={cls:=.type "function",data:=.func fd}
def zF(f:Addr)(fd:FD):HO:=.ext λh=>h.get? f=some (JO fd)
def zG(c:Addr)(q:Str):HO:=.ext λh=>∃o vs t,h.get? c=some o/\o.data=.fields vs/\vs[1]? =some (.str q t)
def BX(K:FR)(c T:Addr):Prop:=∀h:Heap,K.In h->PySem.W.CodeHd h c T
def x5(mg:MG)(base:Heap):Prop:=∃bm O,mg "__builtins__"=some (.ref bm)/\bm≠builtinsNs/\base.get? bm=some O/\O.cls=.type "module"/\O.dict=some builtinsNs/\O.data=.plain
abbrev sW(q:Str)(args:Arguments)(G:Expr)(scope:Scope)(cl:e9)(pm:Value)(c:Addr)(I:Value):FuncData:=PySem.W.kla_fn "<lambda>" q args G scope cl pm (.ref c) I
def aeH(T:Addr)(q:Str)(args:Arguments)(G:Expr)(scope:Scope)(cl:e9)(pm:Value):TE:=λσ H Q=>H T=some (.gR #[])/\∀(f c:Addr)(I:Value)(j:Array Value),H f=none->H c=none->c≠f->
 Q Ă (upd (upd (Ϡ (.gR j)) c (zG c q)) f (zF f (sW q args G scope cl pm c I)))
section
variable{X:Cx}
def aeI(hK:BX X.K c T)(F:x5 X.mg X.base)(lg:X.env.code=.ref c)(hq:X.env.qual++"<lambda>"=q)(gS:closureFor scope X.env=pure cl)(hd:defaultsOf args X.env=([],[]):=by rfl):
  PE X (.Lambda args gV scope pos) (aeH T q args gV scope cl ((X.mg "__name__").getD .none)):=by
 show Ò;let(hT,h):=h;subst hq;let S:s.heap.get? T=some (PySem.W.tabObj #[]):=I.ax T _ hT;let keep:=I.bs;let ns:∀{b:Addr}{m:MG},X.base.Ns b m->s.heap.Ns b m:=λ{b m} ⟨o,es,ep,e,d,r⟩=>⟨o,es,ep,(keep _ _ e).1,d,r⟩;let(bm,ob,b1,b2,b3,b4,b5,b6):=F;let rJ:bm≠T:=λz=>by
  symm
 let hgN:∃o es ep,X.base.get? mainGlobals=some o/\o.data=.dict es ep:=by
  let(o,es,ep,e,d,r):=I.ok.mod.glob;symm
 let hgT:mainGlobals≠T:=λz=>by
  grind
 let Y:bm≠mainGlobals:=λz=>by
  symm
 apply PySem.W.kla_eval hd (PySem.W.kla_makeFunction gS I.ok.glob (ns I.ok.mod.glob) lg (hK _ I.fO) S trivial Á hgT ⟨bm,ob,b1,b2,Y,rJ,(keep _ _ b3).1,b4,b5,b6⟩ λj G h' tk ext U iV JP SN=>?_);let J:∀b o,b≠T->s.heap.get? b=some o->(h'.push (JO (sW (X.env.qual++"<lambda>") args gV scope cl ((X.mg "__name__").getD .none) j G))).get? b=some o:=λb o F e=>dq _ (ext b o F e);let hcf:=ft iV;let O:∀b o,H b=some o->b≠j/\b≠h'.objs.size:=λb o e=>by
  let we:b<s.heap.objs.size:=by
   apply Y0 λz=>?_;rw[I.ax.fresh z] at e;symm
  grind
 let SO:=O _ _ hT;let Z:=I.ax.fresh U;let hfN:=I.ax.fresh (ia U (pN iV));apply(.ref h'.objs.size,_,?_,Á,h h'.objs.size j G (#[]++ #[rawInt pos.line,rawInt pos.col,.ref j]) hfN Z hcf);let M:∀b o,H b=some o->b≠T->(upd (upd (Ϡ (.gR (#[]++ #[rawInt pos.line,rawInt pos.col,.ref j]))) j (zG j (X.env.qual++"<lambda>"))) h'.objs.size (zF h'.objs.size (sW (X.env.qual++"<lambda>") args gV scope cl ((X.mg "__name__").getD .none) j G))) b=some o:=λb o e F=>by
  rw[aq (O b o e).2,aq (O b o e).1,aq F];exact e
 let atT:(upd (upd (Ϡ (.gR (#[]++ #[rawInt pos.line,rawInt pos.col,.ref j]))) j (zG j (X.env.qual++"<lambda>"))) h'.objs.size (zF h'.objs.size (sW (X.env.qual++"<lambda>") args gV scope cl ((X.mg "__name__").getD .none) j G))) T=some (.gR (#[]++ #[rawInt pos.line,rawInt pos.col,.ref j])):=by
  rw[aq SO.2,aq SO.1,ao]
 apply I.step (g':=s.gens) (d':=s.drawn) (t':=tk) (ch:=[]) (λ_ z=>nomatch z) (λb o _ _ _ e n=>J b o (λz=>by simp_all) e) (λb o _ _ _ e n=>⟨o.slots,J b o (λz=>by simp_all) e⟩) (λb o _ e n=>?_) (λb o _ e=>?_) (λb xs e=>M b _ e (λz=>by simp_all)) (λb o u e=>M b _ e (λz=>by simp_all)) (λb ps e=>?_) Æi (λb o e=>?_) I.bare
 .let we:=c9 e;rw[aq (ft (iB we (ia U (pN iV)))),aq (ft (iB we U)),aq (λz=>by simp_all)];exact n
 .by_cases F:b=T
  .rw[F];exact(_,dq _ SN)
  .symm
 .by_cases F:b=T
  .symm
  .symm
 .let(o,es,ep,e,d,r):=hm;exact(o,es,ep,J _ _ (λz=>by grind) e,d,r)
 .by_cases hf:b=h'.objs.size
  .subst hf;rw[ao] at e;cases e;exact(iq _ Á,⟨_,iq _ Á⟩,λh1 h2 p k=>k _ p)
  .rw[aq hf] at e;by_cases hc:b=j
   .subst hc;rw[ao] at e;cases e;let(c2,o,vs,t,ec,e1,e2,e3):=JP;cases ec;let SQ:=dq (JO (sW (X.env.qual++"<lambda>") args gV scope cl ((X.mg "__name__").getD .none) b G)) e1;exact(⟨o,vs,t,SQ,e2,e3⟩,⟨_,SQ⟩,λh1 h2 ⟨o,vs,t,p1,p2,p3⟩ k=>⟨o,vs,t,k _ p1,p2,p3⟩)
   .rw[aq hc] at e;by_cases F:b=T
    .subst F;rw[ao] at e;cases e;exact dq _ SN
    .rw[aq F] at e;apply(I.ax b o e).nB (λa u ha q=>J a u (λz=>?_) q) (λa q=>M a _ q (λz=>by simp_all)) (λa xs q=>M a _ q (λz=>by simp_all));symm
def E3(P:Pg)(w:Wd)(K:FR)(mg:MG)(base:Heap)(k:Nat)(q:Str)(fdOf:Addr->Value->FuncData)(ps:LS)(sp:Sp):Prop:=
 ∀(f c:Addr)(I:Value)(A:Around)(outer:List Env)(s:Sh)(H:Hp)(U:LV)(vs:au)(Q:VK),dy k A->ď H->H f=some (zF f (fdOf c I))->H c=some (zG c q)->bh vs U->vs.length=ps.length->sp vs H Q E0->
  codeAny Àm A (.call Ă ⟨U,[]⟩) (CR aE outer P w H s Q E0) s
def BY(H:Hp)(f:Addr)(q:Str)(fdOf:Addr->Value->FuncData):Prop:=∃c I,H f=some (zF f (fdOf c I))/\H c=some (zG c q)
def aeP(i:Nat)(q:Str)(fdOf:Addr->Value->FuncData)(ps:LS)(sp:Sp)(t:TA):TE:=λσ H Q=>∃f,σ[i]? =some Âd/\BY H f q fdOf/\t σ H λvs H1=>BY H1 f q fdOf/\vs.length=ps.length/\sp vs H1 Q E0
variable{x:Str}{i:Nat}{p pos:Pos}{e:Expr}{es:List Expr}{t:TA}{k:Nat}{q:Str}{fdOf:Addr->Value->FuncData}{ps:LS}{sp:Sp}
def aeQ(L:E3 X.prog X.w X.K X.mg X.base k q fdOf ps sp)(hr:dy k X.A)(hN:X.N[i]? =some x)(hv:xx X.env.scope x)(ha:PA X (e::es) t)(hd:(x==("__debug__":Str))=false:=by decide)(lg:(x==("__classdict__":Str))=false:=by decide)(he:starEach (e::es) X.env=(false,eval e X.env)::starEach es X.env:=by rfl) (U:(backTo pos õ).any (·.1)=false:=by rfl):PE X (.Call ώ (e::es) [] pos) (aeP i q fdOf ps sp t):=by
 show Ò;let(f,hf,(c,iM,l1,l2),h):=h;let lv:=Ql (X:=X) (pos:=p) hN hv hd lg pins s σ H (λv H1=>v=.ref f/\H1=H) I ⟨_,hf,rfl,rfl⟩;apply xo (i6 lv (λu s1 ⟨v,H1,J,rv,Z,Y⟩=>?_) λ_ _ z=>z);subst Z Y;cases rv;apply PySem.W.callWith_F ⟨_,_,_,_,(J.ax f _ l1).1⟩ (aN (ha pos pins s1 σ H1 _ J h) λus S ⟨vs,G,m,r,⟨O,F,M,m2⟩,hl,j⟩=>⟨⟨_,_,_,_,(m.ax f _ M).1⟩,?_⟩) he U;apply AR (vz (L f O F X.A X.stack S G us vs Q hr m.zg M m2 r hl j) λr s' j=>?_);cases r with
 |error e=>exact sS pins σ G S e s' m j
 |ok fl=>
  cases fl with
  |ret u=>exact m.after j
  |next=>exact False.elim j
  |brk=>exact False.elim j
  |cont=>exact False.elim j
end
def nW(c:Addr)(o:Obj):HO:=.ext λh=>h.get? c=some o
def del(H:Hp)(a:Addr):Hp:=λb=>if b=a then none else H b
def E4{H:Hp}{a:Addr}:del H a a=none:=af rfl
def wg{H:Hp}{a b:Addr}(h:b≠a):del H a b=H b:=ah h
def BZ{H:Hp}{a b:Addr}(h:H b=none):del H a b=none:=by
 by_cases e:b=a
 .rw[e,E4]
 .rw[wg e,h]
def dX.del{P:Pg}{w:Wd}{H:Hp}{h:Heap}{c:Addr}{o:Obj}(x:ġ h)(hc:H c=some (nW c o)):dX P w (del H c) h:=λa u e=>by
 let j:a≠c:=λz=>by rw[z,E4] at e;cases e
 rw[wg j] at e;apply(x a u e).nB Äe (λb q=>?_) (λb xs q=>?_)
 .rw[wg (λz=>by rw[z,hc] at q;cases q)];exact q
 .rw[wg (λz=>by rw[z,hc] at q;cases q)];exact q
def dX.put{P:Pg}{w:Wd}{H:Hp}{h:Heap}{c:Addr}{o:Obj}(x:ġ h)(j:H c=none)(hc:h.get? c=some o):dX P w (upd H c (nW c o)) h:=λa u e=>by
 by_cases m:a=c
 .subst m;rw[ao] at e;cases e;exact(hc,⟨_,hc⟩,λF h2 p k=>k _ p)
 .rw[aq m] at e;apply(x a u e).nB Äe (λb q=>?_) (λb xs q=>?_)
  .rw[aq (λz=>by rw[z,j] at q;cases q)];exact q
  .rw[aq (λz=>by rw[z,j] at q;cases q)];exact q
structure JQ(p x:Str)(sc:Scope):Prop where
 kind:sc.kind=.function
 co:sc.isCoroutine=false
 gen:sc.isGenerator=false
 loc:sc.names.lookup p=some .local
 fr:sc.names.lookup x=some .free
 SR:∀y∈sc.names,y.2≠ .cell
 only:∀y∈sc.names,y.2=.free->y.1=x
abbrev E5(q:Str)(scope:Scope)(L f:Addr)(cd:Value)(cl:e9):Env:=newEnv scope L mainGlobals cl (q++".<locals>.") (some f) cd none builtinsNs
def E6(P:Pg)(w:Wd)(K:FR)(mg:MG)(base:Heap)(N:LS)(cQ:Str)(scope:Scope)(f:Addr)(cd:Value)(cl:e9)(A:Around)(outer:List Env)(s:Sh)(H:Hp):Cx where
 prog:=P
 w:=w
 K:=K
 mg:=mg
 base:=base
 A:=A.deeper (ϫ cl)
 N:=N
 ic:=s
 qV:=H
 env:=ϫ cl
 outer:=outer
 stack:=ϫ cl::outer
 ex:=[]
 calm:=true
 fn:=λ_=>false
 pn:=[]
 xe:=λ_ _=>False
theorem E7{x y:Str}{cx c:Addr}(h:List.lookup y [(x,cx)]=some c):y=x/\c=cx:=by
 rw[vC] at h;cases e:y==x with
 |true=>rw[e] at h;exact(uv.mp e,(aI h).symm)
 |false=>rw[e] at h;cases h
section
variable{P:Pg}{w:Wd}{K:FR}{mg:MG}{base:Heap}{q p x:Str}{scope:Scope}{f cx:Addr}{cd:Value}{A:Around}{outer:List Env}{s:Sh}{H:Hp}{v1 v:V}{u1 u:Value}{o:Obj}{h':Heap}{tk:Nat}
def aeS(S:JQ p x scope)(hd:A.handled=none)(j:ď H)(M:RelV v1 u1)(J:s.heap.get? cx=some o)(F:o.data=.cell Âu)(W:RelV v u)(G:H cx=none)(O:h'.Ns s.heap.objs.size (λy=>[(p,u1)].reverse.lookup y)) (hk:∀b o,s.heap.get? b=some o->h'.get? b=some o):
  Inv (E6 P w K mg base [p,x] q scope f cd [(x,cx)] A outer s H) [] (start [p,x] [v1,v]) H {s with heap:=h',toks:=tk}:=by
 let U:∀b:Addr,b∉(E6 P w K mg base [p,x] q scope f cd [(x,cx)] A outer s H).ex:=λb z=>absurd (show b∈([]:LA) from z) Ä;apply⟨⟨j.mod,S.kind,Á,Á,bU _,λy z c m h2=>(E7 m).1.trans (E7 h2).1.symm,λy hy=>?_,λy c z _=>Bool.noConfusion z,λ_=>hd,Around.frames_deeper j.frames,.inr ⟨Á,Á⟩,λb z=>absurd z (U b),j.bs,j.nG,λb _ _=>U b,λb z=>absurd z (U b),j.k7,j.pV⟩,
  rfl,j.bare,Un.kept hk,⟨_,O,λi y Z m h2 Y=>?_⟩,λy c h=>?_,j.ax.fresh (bU _),λy c h=>?_,λp I=>absurd (show p∈([]:bJ) from I) Ä,j.ax.kept hk,rfl⟩
 .let hy:scope.names.lookup y=some .cell\/scope.names.lookup y=some .free:=hy;rcases hy with hy|hy
  .exact absurd Á (S.SR _ Âl)
  .apply(cx,?_);rw[show y=x from S.only _ Âl rfl];show List.lookup x [(x,cx)]=some cx;simp
 .match i with
  |0=>
   cases m;cases h2;exact(u1,M,.inl ⟨S.loc,by show List.lookup p [(p,u1)]=some u1;simp⟩)
  |1=>
   cases m;cases h2;exact(u,W,.inr ⟨.inr S.fr,cx,by show List.lookup x [(x,cx)]=some cx;simp,o,hk _ _ J,F⟩)
  |i+2=>cases m
 .let(rfl,rfl):=E7 h;exact(_,o,hk _ _ J,F)
 .let(rfl,rfl):=E7 h;exact G
def oR.del(j:ď H)(hc:H cx=some Æc):ď (del H cx):=
 ⟨j.frames,j.mod,λb o e=>⟨(j.bs b o e).1,BZ (j.bs b o e).2⟩,j.nG,j.k7,λb m=>BZ (j.pV b m),j.ax.del hc,j.bare⟩
inductive JR(cx:Addr)(v:V)(vx:Sp)(vs:au)(H:Hp)(Q:VK)(E':XK):Prop
 |mk (o:Obj) (u:Value) (_:H cx=some Æc) (_:o.data=.cell Âu) (_:RelV v u) (_:vs.length=1) (_:vx vs (del H cx) (λr H'=>H' cx=none->Q r (upd H' cx Æc)) E')
def Un.put{fs:LA}{H H':Hp}{h h2:Heap}(un:Un fs [] (del H cx) H' h h2)(hc:H cx=some Æc):Un fs [] H (upd H' cx Æc) h h2:=by
 let ne:∀{b:Addr},H b=none->b≠cx:=λn z=>by rw[z,hc] at n;cases n
 apply(λb O q n m j=>un.keep b O q (BZ n) m j,λb O q n m j=>un.slot b O q (BZ n) m j,λb O q n j=>?_,un.there,λb xs q=>?_,λb O u q=>?_,λb ps q=>?_)
 .rw[aq (ne n)];exact un.free b O q (BZ n) j
 .let z:b≠cx:=λz=>by rw[z,hc] at q;cases q
  rw[aq z];exact un.pR b xs (by rw[wg z];exact q)
 .let z:b≠cx:=λz=>by rw[z,hc] at q;cases q
  rw[aq z];exact un.nE b O u (by rw[wg z];exact q)
 .let z:b≠cx:=λz=>by rw[z,hc] at q;cases q
  rw[aq z];exact un.pU b ps (by rw[wg z];exact q)
def aeT{k:Nat}{args:Arguments}{G:Expr}{pm:Value}{vx:Sp}(S:JQ p x scope)(JS:∀(c:Addr)(Y u:Value),bindArgs (sW q args G scope [(x,cx)] pm c Y) ⟨[u],[]⟩=pure [(p,u)])(uK:∀(f c:Addr)(A:Around)(outer:List Env)(s:Sh)(H:Hp)(y:V)(Q:VK),dy k (A.deeper (E5 q scope s.heap.objs.size f (.ref c) [(x,cx)]))->vx [y] H Q E0->
   ∃t,PE (E6 P w K mg base [p,x] q scope f (.ref c) [(x,cx)] A outer s H) G t/\t (start [p,x] [y,v]) H Q):E3 P w K mg base (k+1) q (sW q args G scope [(x,cx)] pm) [p] (JR cx v vx):=by
 intro f c Y A outer s H us vs Q hr j hf hc r O jb;let(o,u,m,ho,ru,_,ht):=jb;let M:s.heap.get? cx=some o:=(j.ax cx _ m).1;let KX:=j.mod.sE.keeps λb o e=>(j.bs b o e).1;let Z:=j.mod.nolimit.keeps λb o e=>(j.bs b o e).1;let(o',wc,t',c1,c2,c3):=(j.ax c _ hc).1;apply PySem.W.kla_callFunE hr.depth (j.ax f _ hf).1 Á S.co S.gen Á ⟨c,o',wc,t',Á,c1,c2,c3⟩ ?_;cases r with
 |nil=>cases O
 |cons r1 r2=>
 cases r2 with
 |cons _ _=>cases O
 |nil=>
 rw[JS];apply di ?_;apply wpAny_newFunctionEnv S.SR Ào (λh' oN F=>?_) S.kind
 .rw[nu.mp hy];exact S.loc
 let hk:∀b o,s.heap.get? b=some o->h'.get? b=some o:=λb o e=>by
  rw[F.2 b Èb];exact dq _ e
 apply(Z.keeps hk,PySem.W.kla_codeExpr ?_);let(t,hp,hq):=uK f c A outer s (del H cx) _ _ (hr.deeper _) ht;let I:=aeS (q:=q) (f:=f) (cd:=.ref c) (tk:=s.toks+1) S hr.hd (j.del m) r1 M ho ru E4 oN hk;apply i6 (hp [] _ _ _ _ I hq) (λv' s' h=>?_) λ_ _ z=>False.elim z;let(y,H',J,rv,qq):=h;let ij:s'.heap.get? cx=some o:=J.base.keep cx o M E4 (λz=>by let:=j.pV cx z;rw[m] at this;cases this) (by simp[E6]);let U:=J.k8 x cx (by show List.lookup x [(x,cx)]=some cx;simp);exact(y,upd H' cx Æc,J.os,J.bare,Un.put J.base m,J.ax.put U ij,rv,qq U)
end
section
def Un.tail{X:Cx}{pins:bJ}{σ:St}{H1 G:Hp}{S:Sh}{h2:Heap}{c:Addr}{o:Obj}(I:Ã H1 S)(hex:X.ex=[])(hc:X.ic.heap.objs.size<=c)(J:H1 c=none)(un:Un (nF X.stack) [] Äi G S.heap h2):Un X.fs [] X.qV G X.ic.heap h2:=by
 let nx:∀b:Addr,b∉X.ex:=λb=>by rw[hex];simp
 let ne:∀{b:Addr}{O:Obj},X.ic.heap.get? b=some O->b≠c:=λe=>ft (iB (c9 e) hc);let fr:∀{b:Addr}{O:Obj},X.ic.heap.get? b=some O->X.qV b=none->upd H1 c (nW c o) b=none:=λe n=>by
  rw[aq (ne e)];exact I.base.free _ _ e n (nx _)
 let F:∀{b:Addr}{u:HO},H1 b=some u->b≠c:=λe z=>by rw[z,J] at e;cases e
 apply(λb O q n j _=>?_,λb O q n j _=>?_,λb O q n _=>?_,λb O q _=>?_,λb xs q=>?_,λb O u q=>?_,λb ps q=>?_)
 .apply un.keep b O (I.base.keep b O q n j (nx b)) (fr q n) (λz=>?_) Ä;rcases a0.mp (I.Bc b z) with z|z
  .let:=c9 q;rw[z] at this;exact absurd (iB this I.ok.above) (qQ _)
  .exact j z
 .let(sl,e):=I.base.slot b O q n j (nx b);let(Y,m):=un.any e (fr q n) Ä;exact(Y,m)
 .let(sl,e):=I.base.any q n (nx b);exact un.free b _ e (fr q n) Ä
 .let(W,e):=I.base.there b O q (nx b);exact un.there b W e Ä
 .let e:=I.base.pR b xs q;exact un.pR b xs (by rw[aq (F e)];exact e)
 .let e:=I.base.nE b O u q;exact un.nE b O u (by rw[aq (F e)];exact e)
 .let(M,e):=I.base.pU b ps q;let(U,m):=un.pU b _ (by rw[aq (F e)];exact e);exact(M++U,by rw[m,Array.append_assoc])
def PX(X:Cx)(e:Expr)(t:TE):Prop:=
 ∀(pins:bJ)(s:Sh)(σ:St)(H:Hp)(Q:VK),Ã H s->t σ H Q->wpAny È X.A Ϛ (CE X.outer X.prog X.w X.qV X.ic Q) X.xe s
def aeV(c:Addr)(i:Nat)(sp:Sp)(t:TA):TE:=λσ H Q=>∃v,σ[i]? =some Ãt/\t σ H λvs H1=>∀(o:Obj)(u:Value),o.data=.cell Âu->RelV v u->H1 c=none->sp vs Äi Q E0
variable{X:Cx}{g x:Str}{c f:Addr}{fd:FD}{k i:Nat}{ps:LS}{sp:Sp}{p pos:Pos}{e:Expr}{es:List Expr}{t:TA}
def aeW(F:ú aE k f fd ps sp)(hr:dy k X.A)(hg:Gl X g)(hm:X.mg g=some Ă)(hk:PySem.W.keepIn X.K Ă=true)(G:ł [])(hN:X.N[i]? =some x)(Z:X.env.scope.names.lookup x=some .cell)(hc:X.env.cells.lookup x=some c)(hf:X.fn x=true)(hex:X.ex=[])(ha:PA X (e::es) t) (ja:(g==("__debug__":Str))=false:=by decide) (he:starEach (e::es) X.env=(false,eval e X.env)::starEach es X.env:=by rfl) (dh:(backTo pos õ).any (·.1)=false:=by rfl):
  PX X (.Call Èh (e::es) [] pos) (aeV c i sp t):=by
 show Ò;let(v,hv,h):=h;apply xo (vJ I hg hm ?_ ja);apply PySem.W.callWith_K (h₀:=X.base) I.ok.mod.sE hk (aN (ha pos pins s σ H _ I h) λU S h1=>?_) he dh;let(vs,H1,I1,r,q):=h1;refine Áx;let(m,_,lo):=I1.loc;let(u,ru,lk):=lo i x v hN hv (.inr (.inl Z));obtain⟨o,ho,hd⟩:S.heap.IsCell c Âu:=by
  rcases lk with ⟨z,_⟩|⟨_,c',e,yZ⟩
  .let z:X.env.scope.names.lookup x=some .local:=z;rw[Z] at z;cases z
  .rw[hc] at e;cases e;exact yZ
 let O:=I1.k8 x c hc;let q:=q o u hd ru O;let M:=I1.ok.xy x c hf hc;let j:=I1.zg;let e1:oR X.prog X.w X.K X.mg X.base X.A X.stack S Äi:=⟨j.frames,j.mod,λb Y e=>⟨(j.bs b Y e).1,by
   rw[aq (ft (iB (c9 (I1.ok.bs b Y e).1) M))];exact(j.bs b Y e).2⟩,j.nG,j.k7,λb G=>by
   let nb:b≠c:=by
    rcases a0.mp (I1.Bc b G) with z|z
    .rw[z];exact(I1.vG x c hc).symm
    .let(_,o',h',_):=I1.ok.k7.mem z;exact ft (iB (c9 h') M)
   rw[aq nb];exact j.pV b G,j.ax.put O ho,j.bare⟩
 let hl:(U++[]).length=ps.length:=by rw[jV,<-r.length];exact F.len _ _ _ _ q
 let G:=G S U I1.fO hl;rw[jV] at G;apply AR (vz (F.run X.A X.stack S _ ⟨U,[]⟩ U vs _ E0 hr e1 G r q) λr s' J=>?_);cases r with
 |error e=>exact False.elim J
 |ok fl=>
  cases fl with
  |ret u'=>
   let(y,H2,os,bare,un,ax,ry,qq):=J;exact(y,H2,os.trans I1.os,bare,Un.tail I1 hex M O un,ax,ry,qq)
  |next=>exact False.elim J
  |brk=>exact False.elim J
  |cont=>exact False.elim J
def bu.okt{P:Pg}{w:Wd}{K:FR}{mg:MG}{base:Heap}{x cQ:Str}{st:Stmt}{f:Addr}{fd:FD}{N ps:LS}{k:Nat}{sp:Sp}{e:Expr}{pos:Pos}(F:Ák fd)(S:bO N ps Áh)(Y:i7 st=[.Return (some e) pos])(uK:∀(aG:Value)(A:Around)(outer:List Env)(s:Sh)(H:Hp)(vs:au)(Q:VK)(E:XK),fd.code=aG->dy k ļ->sp vs H Q E->
   ∃t,PX (ϕ N cQ Áh f aG A outer s H E).vL e t/\t Ÿ H Q) (len:∀vs H Q E,sp vs H Q E->vs.length=ps.length:=by intro _ _ _ _ h;cases h;subst_vars;rfl):Ì aE (k+1) f fd ps sp:=by
 let(oc,od,kV,i4,pm,an,aG,ct,ny,rfl,lk,lg):=F.ex;apply(len,λA outer s H args us vs Q E hr j nP r J=>?_);let hl:=len _ _ _ _ J;let m:K.In s.heap:=j.mod.sE.keeps λb o e=>(j.bs b o e).1;let M:s.heap.NoLimit:=j.mod.nolimit.keeps λb o e=>(j.bs b o e).1;let O:∀y∈ps.zip us,(aZ st).names.lookup y.1=some .local\/((aZ st).names.lookup y.1=some .cell/\((cellsFrom Ï (aZ st).names []).lookup y.1).isSome=true):=λ⟨n,v⟩ hy=>by
  rcases S.par n (DM hy).1 with q|q
  .exact .inl q
  .exact .inr ⟨q,PySem.W.cellsFrom_some _ _ _ (.inl q)⟩
 apply codeAny_call_function hr.depth (m _ _ lk) Á S.co S.gen Á (PySem.W.codeRec_of m lg) (nP _ _ _ _ ?_);apply ap7 S.kind O λenv Z G x=>?_;subst Z;apply(M.keeps x.toInCall.keep,codeAny_func ?_);let(t,hp,hq):=uK aG A outer s H vs Q E rfl (hr.deeper _) J;let I:Inv (ϕ N cQ Áh f aG A outer s H E) [] Ÿ H G:=QL S hr.hd j hl r x;let U:=hp [] G Ÿ H Q (I.iK _) hq;show wpAny _ _ (execs Åq _) _ _ _;rw[Y];exact Pt (wpAny_Return_some (i6 U (λv s' hs=>hs) λ_ _ z=>False.elim z))
end
def zH(i j:Int):Int:=if j>i then j else i
section
def aeY(hc:X.calm=true):lS X (.builtin "max") (λxs H Q=>∃i j k,xs=[.int i,.int j,.int k]/\Q (.int (zH (zH i j) k)) H):=by
 intro pins s σ H xs U Q I r h;let(i,j,k,rfl,q):=h;cases r with
 |cons z r=>cases r with
  |cons F r=>cases r with
   |cons G r=>
    cases r;let(J,rfl):=z;let(t2,rfl):=F;let(M,rfl):=G;apply max_three_ints Ċ λh' tk kp=>⟨_,H,I.kept kp,?_,q⟩;delta zH;by_cases m:j>i
    .rw[af m,af m];by_cases h2:k>j
     .rw[af h2,af h2];exact(_,Á)
     .rw[ah h2,ah h2];exact(_,Á)
    .rw[ah m,ah m];by_cases h2:k>i
     .rw[af h2,af h2];exact(_,Á)
     .rw[ah h2,ah h2];exact(_,Á)
end
end L2
end
section
namespace L2
open PySem PySem.Spec PyProof.Rows
open PySem.W (WData Codec OpenSpec Well WellAll ReadsW ReadsAllW)
mutual
inductive Dw(K:FR)(H:Hp):V->WData->Prop
 |aL:Dw K H .aL .none
 |bl (b:Bool):Dw K H (.bl b) (.bool b)
 |int (i:Int):Dw K H Ãe Ãe
 |str (x:Str):Dw K H Çl Çl
 |jn (b:Array UInt8):Dw K H (.jn b) (.bytes b.toList)
 |lst {a:Addr} {xs:au} {ds:List WData}:ä a xs->mz K H xs ds->Dw K H Ğ (.list ds)
 |tup {a:Addr} {xs:au} {ds:List WData}:ũ a xs->mz K H xs ds->Dw K H Ğ (.tuple ds)
inductive mz(K:FR)(H:Hp):au->List WData->Prop
 |nil:mz K H [] []
 |cons {v:V} {vs:au} {d:WData} {ds:List WData}:Dw K H v d->mz K H vs ds->mz K H (v::vs) (d::ds)
end
theorem SU{K:FR}{H:Hp}:∀ns:LI,mz K H Ŧ (ns.map WData.int):=by
 intro ns;induction ns with
 |nil=>exact .nil
 |cons n r I=>
  exact .cons (.int n) I
theorem JT{K:FR}{H:Hp}(ns:LI):∀(xs:au),mz K H xs (ns.map WData.int)->xs=ns.map V.int:=by
 induction ns with
 |nil=>
  intro xs h;cases h;rfl
 |cons n r I=>
  intro xs h;cases h with
  |cons j h2=>
   cases j;rw[I _ h2] <;> rfl
section
variable{P:Pg}{w:Wd}{K:FR}{H:Hp}{h:Heap}{R:PySem.W.WRecords}{cl:Str->OA}
def aeZ{a:Addr}{xs:au}(ax:ġ h)(z:K.In h)(q:ä a xs):∃(j:LV)(o:Obj)(n:Nat),bh xs j/\h.get? a=some o/\o.cls=.type "list"/\o.data=.seq j.toArray n:=by
 rcases q with q|⟨o,j,n,e,hc,_,hd,_,m⟩
 .let(_,j,n,m,e):=(q.ok ax);symm
 .exact(j.toList,o,n,m,z _ _ e,hc,by simp[hd])
def ae0{a:Addr}{xs:au}(ax:ġ h)(z:K.In h)(q:ũ a xs):∃(j:LV)(o:Obj)(n:Nat),bh xs j/\h.get? a=some o/\o.cls=.type "tuple"/\o.data=.seq j.toArray n:=by
 rcases q with q|⟨o,j,n,e,hc,hd,_,m⟩
 .let(_,j,m,o,e,hc,n,hd):=(q.ok ax);symm
 .exact(j.toList,o,n,m,z _ _ e,hc,by simp[hd])
def Dw.reads(ax:ġ h)(F:K.In h)(d:WData)(v:V)(u:Value)(x:Dw K H v d):RelV v u->∃as,ReadsW R cl h u d as:=
 Dw.rec (motive_1:=λv d _=>∀u,RelV v u->∃as,ReadsW R cl h u d as) (motive_2:=λvs G _=>∀U,bh vs U->∃as,ReadsAllW R cl h U G as)
  (λu r=>by cases r;exact(_,ReadsW.none)) (λb u r=>by cases r;exact(_,ReadsW.bool b)) (λi u r=>by let(t,rfl):=r;exact(_,ReadsW.int i t)) (λx u r=>by let(t,rfl):=r;exact(_,ReadsW.str x t))
  (λb u r=>by let(t,rfl):=r;exact(_,ReadsW.bytes _ t))
  (λhs _ I u r=>by
   cases r;let(j,o,n,z,m,hc,hd):=aeZ ax F hs;let(as,hr):=I j z;exact(_,ReadsW.list m hc hd hr))
  (λhs _ I u r=>by
   cases r;let(j,o,n,z,m,hc,hd):=ae0 ax F hs;let(as,hr):=I j z;exact(_,ReadsW.tuple m hc hd hr))
  (λU r=>by cases r;exact(_,ReadsAllW.nil))
  (λ_ _ J M U r=>by
   cases r with
   |cons W Y=>
    let(as,O):=J _ W;let(bs,S):=M _ Y;exact(_,ReadsAllW.cons O S)) x u
end
mutual
def rK:WData->Bool
 |.none=>true
 |.bool _=>true
 |.int _=>true
 |.str _=>true
 |.bytes _=>true
 |.list xs=>qo xs
 |.tuple xs=>qo xs
 |_=>false
def qo:List WData->Bool
 |[]=>true
 |x::r=>rK x&&qo r
end
theorem ae1{α:Type}{f:α->WData}(h:∀a,rK (f a)=true):∀l:List α,qo (l.map f)=true:=by
 intro l;induction l with
 |nil=>exact Á
 |cons x r I=>
  show(rK (f x)&&qo (r.map f))=true;rw[h x,I] <;> rfl
theorem wj:∀(c:Codec)(a:c.denote),rK (c.enc a)=true
 |.unit,_=>rfl
 |.bool,_=>rfl
 |.int _ _,_=>rfl
 |.nat _ _,_=>rfl
 |.u8,_=>rfl
 |.bytes _ _,_=>rfl
 |.text _ _ _ _,_=>rfl
 |.list _ _ c,a=>ae1 (λx=>wj c x) a
 |.pair c d,a=>by
  show(rK (c.enc a.1)&&(rK (d.enc a.2)&&true))=true;rw[wj c a.1,wj d a.2] <;> rfl
 |.triple c d e,a=>by
  show(rK (c.enc a.1)&&(rK (d.enc a.2.1)&&(rK (e.enc a.2.2)&&true)))=true;rw[wj c a.1,wj d a.2.1,wj e a.2.2] <;> rfl
 |.option c,none=>rfl
 |.option c,some x=>wj c x
theorem ae2(cs:List Codec):∀(a:Codec.denoteAll cs),qo (Codec.encAll cs a)=true:=by
 induction cs with
 |nil=>exact @λ_=>Á
 |cons c cs I=>
  intro a;show(rK (c.enc a.1)&&qo (Codec.encAll cs a.2))=true;rw[wj c a.1,I a.2] <;> rfl
theorem SV{xs:List WData}:∀{d:WData},d∈xs->d.weight<=WData.weightAll xs:=by
 induction xs with
 |nil=>exact @λd h=>absurd h Ä
 |cons x r I=>
  intro d h;show d.weight<=x.weight+1+WData.weightAll r;rcases a0.mp h with e|m
  .rw[e];omega
  .let z:=I m;omega
def toV:Value->V
 |.none=>.aL
 |.bool b=>.bl b
 |.int i _=>.int i
 |.str x _=>.str x
 |.bytes b _=>.jn b
 |.ref a=>.ref a
 |_=>.aL
def jH(A:LA):Value->Prop
 |.none=>True
 |.bool _=>True
 |.int _ _=>True
 |.str _ _=>True
 |.bytes _ _=>True
 |.ref a=>a∈A
 |_=>False
theorem jH.mono{A B:LA}(h:∀a∈A,a∈B):∀{u:Value},jH A u->jH B u:=λ{u}x=>by
 cases u with
 |ref a=>exact h a x
 |none=>trivial
 |bool b=>trivial
 |int i t=>trivial
 |str s t=>trivial
 |bytes b t=>trivial
 |_=>exact False.elim x
theorem ae3{A:LA}{u:Value}(x:jH A u):RelV (toV u) u:=by
 cases u with
 |ref a=>rfl
 |none=>rfl
 |bool b=>rfl
 |int i t=>exact(t,Á)
 |str s t=>exact(t,Á)
 |bytes b t=>exact(t,Á)
 |_=>exact False.elim x
theorem B1{A:LA}{vs:LV}:(∀u∈vs,jH A u)->bh ŷ vs:=by
 induction vs with
 |nil=>exact @λ_=>.nil
 |cons u r I=>
  intro h;exact .cons (ae3 (h u (fG ..))) (I λx j=>h x (aP _ j))
def oY(h:Heap)(A:LA)(a:Addr):Prop:=∃vs:LV,vs.length<=sizeLine/\(∀u∈vs,jH A u)/\
 (h.get? a=some {cls:=.type "list",data:=.seq vs.toArray}\/h.get? a=some {cls:=.type "tuple",data:=.seq vs.toArray})
def oY.mono{h:Heap}{A B:LA}{a:Addr}(k:∀a∈A,a∈B)(x:oY h A a):oY h B a:=by
 let(vs,j,h2,m):=x;exact(vs,j,λu z=>(h2 u z).mono k,m)
theorem JU{P:Params}{h:Heap}{vs:LV}:∀{j:List WData},WellAll P h vs j->vs.length=j.length:=by
 induction vs with
 |nil=>intro j h;cases h;rfl
 |cons v vs I=>
  intro j h;cases h with
  |cons _ b=>
   show _+1=_+1;rw[I b]
theorem SW{P:Params}{h:Heap}{v:Value}{j:List WData}(x:Well P h v (.list j)):∃(a:Addr)(vs:LV),v=.ref a/\h.get? a=some {cls:=.type "list",data:=.seq vs.toArray}/\WellAll P h vs j:=by
 cases x with
 |list m J=>symm
theorem SX{P:Params}{h:Heap}{v:Value}{j:List WData}(x:Well P h v (.tuple j)):∃(a:Addr)(vs:LV),v=.ref a/\h.get? a=some {cls:=.type "tuple",data:=.seq vs.toArray}/\WellAll P h vs j:=by
 cases x with
 |tuple m J=>symm
theorem SY{P:Params}{h:Heap}{U:LV}{d:WData}{j:List WData}(x:WellAll P h U (d::j)):∃(v:Value)(vs:LV),U=v::vs/\Well P h v d/\WellAll P h vs j:=by
 cases x with
 |cons a b=>grind
def ae4{n:Nat}(h:n<=1048576):n<=sizeLine:=ia h Ù
section
variable{P:Params}{h:Heap}
def SZ{M:WData->Prop}(n:M .none)(b:∀b,M (.bool b))(i:∀i,M Ãe)(s:∀s,M (.str s))(y:∀b,M (.bytes b))(l:∀xs,(∀d∈xs,M d)->M (.list xs))(t:∀xs,(∀d∈xs,M d)->M (.tuple xs)):∀j,qo j=true->∀d∈j,M d:=
 WData.rec_1 (motive_1:=λd=>rK d=true->M d) (motive_2:=λj=>qo j=true->∀d∈j,M d) (motive_3:=λ_=>True) (motive_4:=λ_=>True) (motive_5:=λ_=>True) (motive_6:=λ_=>True)
  (λ_=>n) (λx _=>b x) (λx _=>i x) (λx _=>s x) (λxs I p=>l xs (I p)) (λxs I p=>t xs (I p)) Àe (λ_ p=>Bool.noConfusion p) (λx _=>y x) (λ_ p=>Bool.noConfusion p) Àe Àe (λ_ _ _ p=>Bool.noConfusion p)
  (λ_ d m=>by cases m) (λx xs z F p d m=>by
   let q:=sy.mp p;cases m with
   |head=>exact z q.1
   |tail _ m=>exact F q.2 d m) trivial Ãq trivial Ãq Ãq (λ_ _ _=>trivial)
theorem JV:∀j:List WData,(∀d∈j,∀v,Well P h v d->d.weight<=1048576->∃A:LA,jH A v/\∀a∈A,oY h A a)->∀vs:LV,WellAll P h vs j->(∀d∈j,d.weight<=1048576)->∃A:LA,(∀u∈vs,jH A u)/\∀a∈A,oY h A a:=by
 intro j;induction j with
 |nil=>
  intro _ vs x _;cases x;exact([],λu m=>absurd m Ä,λa m=>absurd m Ä)
 |cons d j U=>
  intro one vs x z;let(v,vs,rfl,W,Y):=SY x;let(A,I,J):=one d fG v W (z d fG);let(B,M,O):=U (λe G=>one e (aP _ G)) vs Y λe G=>z e (aP _ G);let kA:∀b∈A,b∈A++B:=λb F=>gQ.mpr (.inl F);let kB:∀b∈B,b∈A++B:=λb F=>gQ.mpr (.inr F);apply(A++B,λu S=>?_,λb F=>?_)
  .rcases a0.mp S with e|m
   .rw[e];exact I.mono kA
   .exact(M u m).mono kB
  .rcases gQ.mp F with m|m
   .exact(J b m).mono kA
   .exact(O b m).mono kB
def ae5(j:List WData)(vs:LV)(x:WellAll P h vs j)(p:qo j=true)(z:∀d∈j,d.weight<=1048576):∃A:LA,(∀u∈vs,jH A u)/\∀a∈A,oY h A a:=by
 let G:∀v,jH [] v->∃A:LA,jH A v/\∀a∈A,oY h A a:=λv o=>⟨[],o,λa m=>absurd m Ä⟩;let S:∀(a:Addr)(vs:LV)(j:List WData),vs.length=j.length->WData.weightAll j<=1048576->(h.get? a=some {cls:=.type "list",data:=.seq vs.toArray}\/h.get? a=some {cls:=.type "tuple",data:=.seq vs.toArray})->(∃A:LA,(∀u∈vs,jH A u)/\∀a∈A,oY h A a)->∃A:LA,jH A Ğ/\∀a∈A,oY h A a:=by
  intro a vs j e z F U;let(A,Y,h2):=U;let k:∀b∈A,b∈a::A:=λb I=>aP _ I;apply(a::A,fG ..,λb I=>?_);rcases a0.mp I with O|m
  .rw[O];exact(vs,ae4 (by rw[e];exact ia (PySem.W.length_le_weightAllW j) z),λu hu=>(Y u hu).mono k,F)
  .exact(h2 b m).mono k
 apply JV j (SZ (λv x _=>?_) Ãl Ãl Ãl Ãl (λxs M v x z=>?_) (λxs M v x z=>?_) j p) vs x z
 .cases x;exact G _ trivial
 .cases x;exact G _ trivial
 .cases x;exact G _ trivial
 .cases x;exact G _ trivial
 .cases x;exact G _ trivial
 .let(a,vs,rfl,F,J):=SW x;let Z:=z;exact S a vs xs (JU J) Z (.inl F) (JV xs M vs J λd hd=>ia (SV hd) Z)
 .let(a,vs,rfl,F,J):=SX x;let Z:=z;exact S a vs xs (JU J) Z (.inr F) (JV xs M vs J λd hd=>ia (SV hd) Z)
end
def E8(o:Obj):Option HO:=match o.data with
 |.seq vs _=>if (o.cls==Value.type "list")=true then some (.cz o (.lst (vs.toList.map toV))) else some (.cz o (.tup (vs.toList.map toV)))
 |_=>none
def jf(K:FR)(h:Heap)(A:LA):Hp:=λb=>if b∈A then (if (K.lookup b).isNone=true then (h.get? b).bind E8 else none) else none
def S2(vs:LV):E8 {cls:=.type "list",data:=.seq vs.toArray}=some (.cz {cls:=.type "list",data:=.seq vs.toArray} (.lst ŷ)):=by
 rfl
def S3(vs:LV):E8 {cls:=.type "tuple",data:=.seq vs.toArray}=some (.cz {cls:=.type "tuple",data:=.seq vs.toArray} (.tup ŷ)):=by
 rfl
section
variable{P:Pg}{w:Wd}{K:FR}{h:Heap}{A:LA}
def E9{b:Addr}{o:Obj}(j:b∈A)(hk:K.lookup b=none)(e:h.get? b=some o):jf K h A b=E8 o:=by
 delta jf;grind
def ae6{b:Addr}{u:HO}(q:jf K h A b=some u):b∈A/\K.lookup b=none:=by
 delta jf at q;by_cases j:b∈A
 .rw[af j] at q;cases hk:K.lookup b with
  |none=>symm
  |some o=>
   symm
 .symm
def Fb(m:∀a∈A,oY h A a){b:Addr}{u:HO}(q:jf K h A b=some u):K.lookup b=none/\∃vs:LV,vs.length<=sizeLine/\(∀u∈vs,jH A u)/\
  ((h.get? b=some {cls:=.type "list",data:=.seq vs.toArray}/\u=.cz {cls:=.type "list",data:=.seq vs.toArray} (.lst ŷ))\/
   (h.get? b=some {cls:=.type "tuple",data:=.seq vs.toArray}/\u=.cz {cls:=.type "tuple",data:=.seq vs.toArray} (.tup ŷ))):=by
 let(j,hk):=ae6 q;let(vs,z,h2,F):=m b j;apply(hk,vs,z,h2,?_);rcases F with e|e
 .rw[E9 j hk e,S2] at q;exact .inl ⟨e,(aI q).symm⟩
 .rw[E9 j hk e,S3] at q;exact .inr ⟨e,(aI q).symm⟩
def ae7(z:K.In h)(F:∀a∈A,oY h A a){a:Addr}{vs:LV}(m:a∈A)(e:h.get? a=some {cls:=.type "list",data:=.seq vs.toArray}):(∀u∈vs,jH A u)/\aa K (jf K h A) a ŷ:=by
 let(U,I,h2,J):=F a m;let G:U=vs:=by
  symm
 subst G;apply(h2,?_);cases hk:K.lookup a with
 |none=>exact .inl (.inr ⟨_,by rw[E9 m hk e,S2]⟩)
 |some o=>
  let j:=z a o hk;rw[e] at j;obtain rfl:=aI j;exact .inr ⟨_,U.toArray,_,hk,Á,Á,Á,by assumption,by simpa using B1 h2⟩
def ae8(z:K.In h)(F:∀a∈A,oY h A a){a:Addr}{vs:LV}(m:a∈A)(e:h.get? a=some {cls:=.type "tuple",data:=.seq vs.toArray}):(∀u∈vs,jH A u)/\bw K (jf K h A) a ŷ:=by
 let(U,I,h2,J):=F a m;let G:U=vs:=by
  symm
 subst G;apply(h2,?_);cases hk:K.lookup a with
 |none=>exact .inl (.inr ⟨_,by rw[E9 m hk e,S3]⟩)
 |some o=>
  let j:=z a o hk;rw[e] at j;obtain rfl:=aI j;exact .inr ⟨_,U.toArray,_,hk,Á,Á,by assumption,by simpa using B1 h2⟩
theorem JW{z:Params}{B:Hp}:∀j:List WData,(∀d∈j,∀v,Well z h v d->jH A v->Dw K B (toV v) d)->∀vs:LV,WellAll z h vs j->(∀u∈vs,jH A u)->mz K B ŷ j:=by
 intro j;induction j with
 |nil=>
  intro _ vs x _;cases x;exact .nil
 |cons d j I=>
  intro one vs x F;let(v,vs,rfl,J,M):=SY x;exact .cons (one d fG v J (F _ fG)) (I (λe G=>one e (aP _ G)) vs M λu m=>F u (aP _ m))
def ae9{O:Params}(G:K.In h)(M:∀a∈A,oY h A a)(j:List WData)(vs:LV)(x:WellAll O h vs j)(p:qo j=true)(m:∀u∈vs,jH A u):mz K (jf K h A) ŷ j:=by
 apply JW j (SZ (λv x _=>?_) (λb v x _=>?_) (λi v x _=>?_) (λs v x _=>?_) (λb v x _=>?_) (λxs I v x m=>?_) (λxs I v x m=>?_) j p) vs x m
 .cases x;exact .aL
 .cases x;exact .bl b
 .cases x;exact .int i
 .cases x;exact .str s
 .cases x;let z:=Dw.jn (K:=K) (H:=jf K h A) b.toArray;exact z
 .let(a,vs,rfl,F,J):=SW x;let(h2,hs):=ae7 G M m F;exact .lst hs (JW xs I _ J h2)
 .let(a,vs,rfl,F,J):=SX x;let(h2,hs):=ae8 G M m F;exact .tup hs (JW xs I _ J h2)
end
def afa{j:List WData}(h:WData.layableAll j=true):∀d∈j,d.weight<=1048576:=λd hd=>
 (PySem.W.layableW_iff.mp (kU.mp h d hd)).2.2
theorem afb(cs:List Codec):∀(a:Codec.denoteAll cs),(Codec.encAll cs a).length=cs.length:=by
 induction cs with
 |nil=>exact @λ_=>Á
 |cons c cs I=>
  intro a;show(Codec.encAll cs a.2).length+1=cs.length+1;rw[I a.2]
section
variable{K:FR}{H H':Hp}
def afc(s:ai H H')(h:ũ a xs):bw K H' a xs:=by
 rcases h with (h|⟨o,h⟩)|h
 .exact .inl (.inl (s _ _ h))
 .exact .inl (.inr ⟨o,s _ _ h⟩)
 .exact .inr h
def afd(s:ai H H')(j:List WData)(vs:au)(x:mz K H vs j):mz K H' vs j:=
 mz.rec (motive_1:=λv d _=>Dw K H' v d) (motive_2:=λvs j _=>mz K H' vs j) .aL .bl .int .str .jn (λh _ r=>.lst (s.seq h) r) (λh _ r=>.tup (afc s h) r) .nil (λ_ _ h r=>.cons h r) x
end
def afe{P:Pg}{w:Wd}{K:FR}{mg mb:MG}{CX:nN}{k:Nat}{fa:Addr}{fd:FD}{ps:LS}{sp:Sp}{s₁:Sh}{U:LV}{G:List WData}{R:PySem.W.WRecords}{cl:Str->OA}{d0:WData}{c T:Addr}(KX:K.In s₁.heap) (oN:s₁.heap.Ns mainGlobals mg) (I:s₁.heap.Ns builtinsNs mb) (hbb:∀x:Str,x≠"__name__"->mb x=bootBuiltins x) (afg:s₁.heap.NoLimit) (hg:s₁.gens= #[])(Y:WellAll w.params s₁.heap U G) (dh:qo G=true) (hwt:∀d∈G,d.weight<=1048576) (hr:dy k callerA) (hT:s₁.heap.TableAt c T #[]) (S4:K.lookup T=none) (qp:x5 mg s₁.heap)(F:∀base:Heap,K.In base->base.Ns mainGlobals mg->x5 mg base->Ì CX k fa fd ps sp) (JS:∀(s:Sh)(us:LV),us.length=ps.length->BindsTo s fd ⟨us,[]⟩ Àl) (cO:G.length=ps.length)(jb:∀(H:Hp)(xs:au),H T=some (.gR #[])->mz K H xs G->sp xs H (λv H'=>Dw K H' v d0) λ_ _ _=>False)(JX:∀H e s',CX [] H s₁ (λ_ _ _=>False) e s'->False):
  codeAny Àm callerA (.call (.ref fa) ⟨U,[]⟩) (λr s'=>∃u as,r=.ok (.ret u)/\ReadsW R cl s'.heap u d0 as/\OldK s₁.heap s'.heap/\s'.os=s₁.os/\AllBare s'.gens) s₁:=by
 let(A,ho,J):=ae5 G U Y dh hwt;let JY:s₁.heap.get? T=some {cls:=.none,data:=.fields #[]}:=hT.2;let uJ:∀{b:Addr}{o:Obj},s₁.heap.get? b=some o->(∀vs n,o.data≠ .seq vs n)->Ġ A b=none:=λ{b o}e d=>by
  cases q:Ġ A b with
  |none=>rfl
  |some u=>
   obtain⟨_,vs,_,_,⟨S,_⟩|⟨S,_⟩⟩:=Fb J q
   .grind
   .grind
 let aT:=uJ JY λvs n z=>by cases z
 let sm:ai (Ġ A) (upd (Ġ A) T (.gR #[])):=λb o e=>by
  rw[aq (eQ e aT)];exact e
 let hS:=afd sm _ _ (ae9 KX J G U Y dh ho);let hV:=B1 ho;let M:upd (Ġ A) T (.gR #[]) T=some (.gR #[]):=ao;let hN:∀b,b≠T->upd (Ġ A) T (.gR #[]) b=jf K s₁.heap A b:=λb I=>aq I;let hO:∀b u,b≠T->upd (Ġ A) T (.gR #[]) b=some u->∃o u',u=.cz o u':=λb u I e=>by
  rw[hN b I] at e;obtain⟨_,vs,_,_,⟨_,e⟩|⟨_,e⟩⟩:=Fb J e
  .symm
  .symm
 let ax:dX P w (upd (Ġ A) T (.gR #[])) s₁.heap:=λb u q=>by
  by_cases j:b=T
  .subst j;rw[M] at q;cases q;exact JY
  .rw[hN b j] at q;obtain⟨_,vs,h1,h2,⟨e,rfl⟩|⟨e,rfl⟩⟩:=Fb J q
   .exact(e,by simp_all,vs,_,B1 h2,e)
   .exact(e,by simp_all,vs,B1 h2,_,e,rfl,_,rfl)
 let hK:∀b u,upd (Ġ A) T (.gR #[]) b=some u->K.lookup b=none:=λb u q=>by
  by_cases j:b=T
  .grind
  .rw[hN b j] at q;exact(Fb J q).1
 let JZ:∀{b:Addr}{o:Obj},s₁.heap.get? b=some o->(∀vs n,o.data≠ .seq vs n)->(∀vs,o.data≠ .fields vs)->upd (Ġ A) T (.gR #[]) b=none:=λ{b o}e d1 d2=>by
  grind
 generalize upd (Ġ A) T (.gR #[])=H at hS M hO ax hK JZ;let Z:∀{b:Addr}{o:Obj},s₁.heap.get? b=some o->H b=none->(uE s₁.heap H).get? b=some o:=λe n=>aab e n;let O:∀{b:Addr}{m:MG},s₁.heap.Ns b m->(uE s₁.heap H).Ns b m:=λ{b m} ⟨o,es,ep,e,d,r⟩=>⟨o,es,ep,Z e (JZ e (λvs n z=>by simp_all) λvs z=>by simp_all),d,r⟩;let nK:∀b o,K.lookup b=some o->H b=none:=λb o e=>by
  cases q:H b with
  |none=>rfl
  |some u=>
   grind
 let S5:=λb o e=>Z (KX b o e) (nK b o e);let hM:Mod K mg Æn:=⟨S5,O oN,⟨mb,O I,hbb⟩,let ⟨mc,h1,h2⟩:=afg;⟨mc,O h1,h2⟩⟩;let hBm:x5 mg Æn:=by
  let(bm,ob,b1,b2,b3,b4,b5,b6):=qp;exact(bm,ob,b1,b2,Z b3 (JZ b3 (λvs n z=>by simp_all) λvs z=>by simp_all),b4,b5,b6)
 let e0:oR P w K mg Æn callerA [] s₁ H:=⟨rfl,hM,λb o e=>aac e,DF (aaa _ _),trivial,λb I=>absurd (show b∈([]:LA) from I) Ä,ax,.of_eq hg⟩;let hl:U.length=ps.length:=by rw[JU Y];exact cO
 apply vz ((F _ S5 (O oN) hBm).run callerA [] s₁ H ⟨U,[]⟩ U (U.map toV) _ _ hr e0 (JS s₁ U hl) hV (jb H _ M hS)) λr s' x=>?_;cases r with
 |error e=>exact(JX H e s' x).elim
 |ok fl=>
  cases fl with
  |next=>exact False.elim x
  |brk=>exact False.elim x
  |cont=>exact False.elim x
  |ret u=>
   let(v,H',os,bare,un,J1,r',q):=x;let kept:=λb o j e=>by
    cases q2:H b with
    |none=>exact un.keep b o e q2 (by intro z;exact absurd (show b∈([]:LA) from z) Ä) Ä
    |some u2=>
     let(ob,u3,rfl):=hO b u2 j q2;let z2:=un.nE b ob _ q2;let(e1,_):=ax b _ q2;let(S,_):=J1 b _ z2;symm
   let KX':=λb o e=>kept b o (λz=>by simp_all) (KX b o e);let(as,S6):=Dw.reads (R:=R) (cl:=cl) J1 KX' d0 v u q r';let(jk,e1):=un.pU T #[] M;let S:s'.heap.get? T=some {cls:=.none,data:=.fields (#[]++jk)}:=J1 T _ e1;apply(u,as,Á,S6,⟨λb o e=>?_,λb o e=>?_⟩,os,bare)
   .by_cases j:b=T
    .subst j;rw[JY] at e;cases e;exact .inr (.inl ⟨hT.isCodeTable,Á,#[],jk,Á,S⟩)
    .exact .inl (kept b o j e)
   .grind
def afk{r:OpenSpec}{k:Nat}{q:Pg}{loose:LS}{XP:MG->Heap->Prop}{YP:Wd->Heap->Prop}{d:DefRec}{K:Params->FR}{CX:nN}{ps:LS}{sp:FR->Addr->Sp}(I:r.wellSaid=true) (J2:d.params.defaults=[]) (cO:r.args.length=ps.length) (hr:dy k callerA)(hY:∀(w:Wd)(h:Heap),YP w h->(K w.params).In h) (JP:((recsOf q).any λd'=>d'.name==d.name)=true)(F:∀(w:Wd)(mg:MG)(j:Addr)(h:Heap),YP w h->(K w.params).In h->h.Ns mainGlobals mg->mg d.name=some (.ref j)->
   ∃(fd:FD)(o:Obj)(c T:Addr),(K w.params).lookup j=some o/\o.data=.func fd/\fd.code=.ref c/\BX Çh c T/\(K w.params).lookup T=none/\(∀(s:Sh)(us:LV),us.length=ps.length->BindsTo s fd ⟨us,[]⟩ Àl)/\
    ∀base:Heap,(K w.params).In base->base.Ns mainGlobals mg->x5 mg base->a9 r.prog w Çh mg base CX k j fd ps (sp Çh T))
  (jb:∀(K:FR)(T:Addr)(H:Hp)(xs:au)(a:Codec.denoteAll r.args),H T=some (.gR #[])->Codec.withinAll r.args a=true->Codec.app r.args r.asked a=true->mz K H xs (Codec.encAll r.args a)->
   sp K T xs H (λv H'=>Dw K H' v (r.ret.enc (Codec.app r.args r.f a))) λ_ _ _=>False)
  (JX:∀(H:Hp)(s:Sh)(e:Value)(s':Sh),CX [] H s (λ_ _ _=>False) e s'->False):
  PySem.W.WalkOS q loose XP YP r d [] (λf vs=>PySem.call f vs):=by
 intro w ic s₁ mg mb G Y j o pm cd i4 dV kV ho hd lg hD U hg args uk as S7 J S6 B3 hlo;let(a,e1,e2):=PySem.W.os_pre_some S7;let(e3,uM):=Codec.encAll_of_decAll r.args args a e1;subst e3;let m:=hY w _ Y;let(fd,o',c,T,k1,k2,k3,hC,S4,hb,hF):=F w mg j _ Y m G.T.g U;let(d',pX,S):=vD.mp JP;let S:=uv.mp S;let(a',o2,fd',c',Z,t1,t2,t3,t4,t5,t6):=G.T.tab d' pX;rw[S,U] at t1;cases t1;rw[m _ _ k1] at t2;cases t2;rw[k2] at t3;cases t3;rw[k3] at t4;cases t4;let O:Z=T:=by
  let((ob,vs,f1,f2,f3,f4),_):=t6;let(ob2,vs2,_,_,_,_,_,_,_,g1,g2,g3,g4,_):=hC _ m;symm
 subst O;refine PySem.W.enter_call (vz (afe (R:=[]) (cl:=classAt ic.heap) (d0:=r.ret.enc (Codec.app r.args r.f a)) m G.T.g G.T.b G.T.builtins G.T.nolimit hg B3 (ae2 _ _) (afa J) hr t6 S4 G.T.bmain hF hb (by rw[afb];exact cO)
  (λH xs hO hS=>jb Çh Z H xs a hO uM e2 hS) λH e s'=>JX H s₁ e s') λr' s' hq=>?_)
 let(u,M,rfl,h1,h2,h3,h4):=hq;exact(.inl ⟨u,_,M,Á,λ_=>Á,h1,(OpenSpec.post_iff I uM _ _).mpr Á,λz=>Bool.noConfusion z⟩,h2,h3,h4)
def S8{K:FR}{c T:Addr}{od:OA}{sl:AO}{O v1 S U W Y Z v8 x6 J j m F G:Value}{fl M:Int}{I tt:Tok}{b:Bool}{x:Str}{ts:Tok}(l:K.lookup c=some ⟨.type "code",od,.fields #[O,v1,S,U,W,Y,Z,.int fl I,v8,.bool b,.int M tt,.ref T,x6,J,j,m,F,G,.str x ts],sl⟩) (ne:(c==T)=false):BX K c T:=λh X=>
 ⟨_,_,_,_,_,_,_,_,_,X _ _ l,rfl,rfl,rfl,rfl,rfl,rfl,rfl,rfl,λz=>by rw[z] at ne;simp at ne⟩
end L2
end
section
namespace JM
open Flags
def aJ(m:Int):LI->c7
 |[]=>[[]]
 |x::r=>if x=m then []::aJ m r else match aJ m r with
  |[]=>[[x]]
  |w::l=>(x::w)::l
def wk(m:Int)(ps:c7)(x:Int):c7:=
 if x=m then ps++[[]] else ps.dropLast++[ps.getLastD []++[x]]
theorem lZ(m:Int):∀l,aJ m l≠[]:=by
 intro l;induction l with
 |nil=>
  simp[aJ]
 |cons x r I=>
  delta aJ;split
  .simp
  .split <;> simp
def J8(m x:Int)(w:LI)(l:c7)(h:l≠[]):wk m (w::l) x=w::wk m l x:=by
 delta wk;split
 .rfl
 .cases l with
  |nil=>symm
  |cons a l=>rfl
theorem afp(m x:Int):∀l,aJ m (l++[x])=wk m (aJ m l) x:=by
 intro l;induction l with
 |nil=>
  by_cases h:x=m <;> simp[aJ,wk,h]
 |cons y r I=>
  let I:=I;let j:=lZ m r;show aJ m (y::(r++[x]))=_;delta aJ;split
  .rw[I,J8 _ _ _ _ j]
  .rw[I];cases e:aJ m r with
   |nil=>exact absurd e j
   |cons w l=>
    cases l with
    |nil=>by_cases z:x=m <;> simp[wk,z]
    |cons a l=>
     rw[J8 m x w (a::l) Ä];rw[J8 m x (y::w) (a::l) Ä]
def ly:LI:=[48,49,50,51,52,53,54,55,56,57,97,98,99,100,101,102]
def qt:LI:=ly++[63]
def jI:LI:=[115,101,101,110]
def uX:c7:=[[102,114,111,110,116],[98,101,104,105,110,100],[117,110,107,110,111,119,110]]
def iE:c7:=[[104,111,105,115,116],[104,111,105,115,116,32,97,98,111,118,101],[104,111,105,115,116,32,98,101,108,111,119],[104,111,105,115,116,32,97,98,111,118,101,32,98,101,108,111,119]]
def iF:c7:=[[115,113,117,97,114,101],[116,97,105,108,115],[108,111,110,103],[115,104,97,112,101,63]]
def B(n:Int):UInt8:=UInt8.ofNat n.toNat
def aY(l:LI):Prop:=∀x∈l,0<=x/\x<=255
def Ff(h:0<=x/\x<=255):(B x).toNat=x.toNat:=by
 delta B;rw[UInt8.toNat_ofNat'];omega
def S9(j:0<=x/\x<=255)(m:0<=y/\y<=255)(e:B x=B y):x=y:=by
 let:=cJ UInt8.toNat e;rw[Ff j,Ff m] at this;omega
theorem wm:∀{a b:LI},aY a->aY b->a.map B=b.map B->a=b
 |[],[],_,_,_=>rfl
 |[],_::_,_,_,e=>by simp at e
 |_::_,[],_,_,e=>by simp at e
 |x::a,y::b,ha,hb,e=>by
  simp only[aX,List.cons.injEq] at e;rw[S9 (ha x fG) (hb y fG) e.1,wm (λz j=>ha z (aP _ j)) (λz j=>hb z (aP _ j)) e.2]
theorem x8(m:Int)(j:0<=m/\m<=255):∀l,aY l->cutAt (B m) ĸ=(aJ m l).map ê:=by
 intro l;induction l with
 |nil=>exact @λ_=>Á
 |cons x r I=>
  intro h;let F:=h x fG;let I:=I λz G=>h z (aP _ G);show(if B x=B m then []::cutAt (B m) (r.map B) else match cutAt (B m) (r.map B) with
   |[]=>[[B x]]
   |w::l=>(B x::w)::l)=(aJ m (x::r)).map ê
  delta aJ;by_cases e:x=m
  .rw[af e,af (by rw[e]),I];rfl
  .rw[ah e,ah λq=>e (S9 F j q),I];cases aJ m r with
   |nil=>rfl
   |cons w l=>rfl
theorem qu(m:Int):∀{l},aY l->∀w∈aJ m l,aY w:=by
 intro l;induction l with
 |nil=>
  intro _ w j;simp[aJ] at j;subst j;intro z F;cases F
 |cons x r I=>
  intro h w j;let I:=I λz F=>h z (aP _ F);delta aJ at j;split at j
  .rcases a0.mp j with rfl|j
   .intro z F;cases F
   .exact I w j
  .cases e:aJ m r with
   |nil=>exact absurd e (lZ m r)
   |cons a l=>
    rw[e] at j I;rcases a0.mp j with rfl|j
    .intro z F;rcases a0.mp F with rfl|F
     .exact h _ fG
     .exact I a fG z F
    .exact I w (aP _ j)
theorem afq(m:Int){l:LI}:m∉l->aJ m l=[l]:=by
 induction l with
 |nil=>exact @λ_=>Á
 |cons x r I=>
  intro h;let j:¬x=m:=λe=>h (by rw[e];exact fG);let h2:=I λq=>h (aP _ q);delta aJ;rw[ah j,h2]
theorem Ta(m:Int)(r:LI){l:LI}:m∉l->aJ m (l++m::r)=l::aJ m r:=by
 induction l with
 |nil=>
  intro _;show aJ m (m::r)=_;delta aJ;rw[af rfl];split <;> rfl
 |cons x l I=>
  intro h;let j:¬x=m:=λe=>h (by rw[e];exact fG);let h2:=I λq=>h (aP _ q);show(if x=m then []::aJ m (l++m::r) else match aJ m (l++m::r) with
   |[]=>[[x]]
   |w::l=>(x::w)::l)=_
  rw[ah j,h2]
def glue(m:Int):c7->LI
 |[]=>[]
 |[w]=>w
 |w::r=>w++m::glue m r
theorem afr(m:Int)(w:LI)(h:r≠[]):glue m (w::r)=w++m::glue m r:=by
 cases r with
 |nil=>symm
 |cons a r=>rfl
theorem afs(m:Int):∀l,glue m (aJ m l)=l:=by
 intro l;induction l with
 |nil=>exact Á
 |cons x r I=>
  let I:=I;let j:=lZ m r;delta aJ;split
  .rename_i e;rw[afr m [] j,I,e];rfl
  .cases e:aJ m r with
   |nil=>exact absurd e j
   |cons w l=>
    rw[e] at I;cases l with
    |nil=>
     show x::w=x::r;rw[show w=r from I]
    |cons a l=>
     rw[<-I];rfl
def wo(c:LI):Bool:=c.length==16&&c.all ly.contains
def Fg(h:l.all (λx=>decide (0<=x)&&decide (x<=255))=true):aY l:=λx j=>by
 symm
def aft(h:0<=x/\x<=255):(hexValue (B x)).isSome=ly.contains x:=by
 let e:=(by decide+kernel:∀n<256,(hexValue (B (n:Nat))).isSome=ly.contains ((n:Nat):Int)) x.toNat Å
 rwa [Y1 h.1] at e
theorem mapM_some(f:α->Option β):∀l:List α,(l.mapM f).isSome=l.all (λx=>(f x).isSome):=by
 intro l;induction l with
 |nil=>exact Á
 |cons x r I=>
  let I:=I;rw[HU,so,<-I];cases f x with
  |none=>rfl
  |some y=>
   cases r.mapM f with
   |none=>rfl
   |some z=>rfl
def J9(h:aY l)(e:∀x,0<=x/\x<=255->f x=g x):l.all f=l.all g:=by
 rw[pO,kU,kU];exact(λq x j=>by rw[<-e x (h x j)];exact q x j,λq x j=>by rw[e x (h x j)];exact q x j)
def Tb(h:aY c):(lookIn Æf).isSome=wo c:=by
 delta lookIn wo;rw[az];by_cases e:c.length=16
 .rw[ah (λq=>q e),DP,mapM_some,sr];rw[show c.all ((λx=>(hexValue x).isSome)∘B)=c.all ly.contains from J9 h (λx j=>aft j),e];rfl
 .symm
def preOf(b:LI):LI:=jI++32::(b++[32])
def afu{b:LI}(h:aY b):aY (preOf b):=λx j=>by
 delta preOf at j;rcases gQ.mp j with q|q
 .exact Fg (l:=jI) Ù x q
 .rcases a0.mp q with q|q
  .subst q;decide
  .rcases gQ.mp q with q|q
   .exact h x q
   .let:x=32:=by simpa using q
    subst this;decide
def afv(m:aY w)(S:aY b):
  ((ascii "seen"++32::(b.map B++[32])).isPrefixOf ĩ &&(lookIn ((w.map B).drop (6+(b.map B).length))).isSome)=true↔ ∃c,w=jI++32::(b++32::c)/\wo c=true:=by
 let I:ascii "seen"++32::(b.map B++[32])=(preOf b).map B:=by
  delta preOf;rw[bZ,aX,bZ];rfl
 let el:(preOf b).length=6+b.length:=by
  delta preOf;rw[lJ,dc,lJ];show 4+(b.length+1+1)=_;omega
 rw[I,iU,List.isPrefixOf_iff_prefix,az,<-PZ];constructor
 .rintro⟨⟨t,U⟩,F⟩;let hd:aY (w.drop (6+b.length)):=λx j=>m x (Y2 j);rw[Tb hd] at F;apply(w.drop (6+b.length),?_,F);let O:(w.take (6+b.length)).map B=(preOf b).map B:=by
   let:=cJ (List.take (6+b.length)) U;rw[<-List.map_take] at this;grind
  let h2:=wm (λx j=>m x (HV j)) (afu S) O;let z:=HW (6+b.length) w;rw[h2] at z;apply z.symm.trans ?_;delta preOf;simp
 .rintro⟨c,rfl,hc⟩;let J:jI++32::(b++32::c)=preOf b++c:=by
   delta preOf;simp
  rw[J] at m⊢;let G:=λx j=>m x (uu _ j);let M:(preOf b++c).drop (6+b.length)=c:=by
   symm
  rw[M,Tb G];symm
def dZ(s:Nat):LI:=uX.getD s []
def Tc:∀s∈[0,1,2],sideWord s=(dZ s).map B/\aY (dZ s)/\uX.contains (dZ s)=true:=by
 intro s hs;let:s=0\/s=1\/s=2:=À hs
 rcases this with rfl|rfl|rfl <;> exact(by decide,Fg Ù,by decide)
def pS(l:Bytes)(s:Nat):Bool:=(ascii "seen"++32::(sideWord s++[32])).isPrefixOf l&&(lookIn (l.drop (6+(sideWord s).length))).isSome
def Td(m:aY w)(hs:s∈[0,1,2]):pS ĩ s=true↔ ∃c,w=jI++32::(dZ s++32::c)/\wo c=true:=by
 let(e,j,_):=Tc s hs;delta pS;rw[e];exact afv m j
def Te{w:LI}(z:aY w){l:c7}(m:∀x∈l,aY x):w.map B∈l.map ê↔w∈l:=by
 rw[cb];constructor
 .rintro⟨x,j,e⟩;rw[<-wm (m x j) z e];exact j
 .grind
def fH(l:Bytes):Option (Bool×Bool):=[(false,false),(true,false),(false,true),(true,true)].find? λ(x:Bool×Bool)=>(Glimpse.lines ⟨x.1,x.2,[]⟩).head?==some l
def fF(l:Bytes):Option Nat:=[0,1,2,3].find? λ(s:Nat)=>shapeSeen s==l
def Tf(l:c7)(h:l.all (λw=>w.all (λx=>decide (0<=x)&&decide (x<=255)))=true):∀x∈l,aY x:=λx j=>Fg (kU.mp h x j)
def afw{w:LI}(z:aY w):(fH ĩ).isSome=iE.contains w:=by
 let e:iE.map ê=[(false,false),(true,false),(false,true),(true,true)].map (λ(x:Bool×Bool)=>((Glimpse.lines ⟨x.1,x.2,[]⟩).head?).getD []):=by decide
 let m:∀x∈[(false,false),(true,false),(false,true),(true,true)],(Glimpse.lines ⟨x.1,x.2,[]⟩).head?=some (((Glimpse.lines ⟨x.1,x.2,[]⟩).head?).getD []):=by decide
 rw[pO];delta fH;rw[List.find?_isSome];rw[show(iE.contains w=true↔w∈iE) from by simp,<-Te z (Tf iE Ù),e,cb];constructor
 .rintro⟨x,j,h⟩;apply(x,j,?_);rw[eq_of_beq h];rfl
 .rintro⟨x,j,h⟩;apply(x,j,?_);rw[m x j,h];exact Y3 _
def afx{w:LI}(j:aY w):(fF ĩ).isSome=iF.contains w:=by
 let e:iF.map ê=[0,1,2,3].map shapeSeen:=by decide
 rw[pO];delta fF;rw[List.find?_isSome];rw[show(iF.contains w=true↔w∈iF) from by simp,<-Te j (Tf iF Ù),e,cb];simp
def afy(l:Bytes):plateLine l=match [0,1,2].find? (pS l) with
  |some s=>(lookIn (l.drop (6+(sideWord s).length))).map λ(x:Nat)=>.seen s x
  |none=>match fH l with
   |some x=>some (.hoist x.1 x.2)
   |none=>match fF l with
    |some s=>some (.flag s)
    |none=>if l.length=4 then (l.mapM cellIn).map .cells else none:=rfl
def Kb{p:LI}(h:aY p):PlateNeutral.text? p=some Áe:=by
 delta PlateNeutral.text?;rw[af ?_]
 .rfl
 .delta NeutralIO.bytes;rw[kU];intro x j;let:=h x j;symm
end JM
end
section
namespace HD
open PySem PySem.Spec PyProof.Rows L2
abbrev Kc:Stmt:=top 6
abbrev Kd:Stmt:=top 7
abbrev Ke:Stmt:=top 15
abbrev Kf:Stmt:=top 16
abbrev Kg:Stmt:=top 17
abbrev Kh:Stmt:=top 18
abbrev Ki:Stmt:=top 19
abbrev Kj:Stmt:=top 20
abbrev Kk:Stmt:=top 21
abbrev Kl:Stmt:=top 22
abbrev afz:Stmt:=inClass (top 33) 0
abbrev afA:Stmt:=inClass (top 34) 0
abbrev Km:Stmt:=top 35
abbrev Ko:Stmt:=top 36
abbrev Kq:Stmt:=top 37
abbrev Kr:Stmt:=top 38
abbrev Ks:Stmt:=top 39
abbrev Ku:Stmt:=top 41
abbrev Kw:Stmt:=top 42
abbrev Kx:Stmt:=top 43
abbrev Ky:Stmt:=inClass (top 60) 0
abbrev afB:Stmt:=inClass (top 61) 0
abbrev afC:Stmt:=inClass (top 62) 0
abbrev afD:Stmt:=inClass (top 63) 0
abbrev Kz:Stmt:=top 64
abbrev KA:Stmt:=top 65
abbrev KB:Stmt:=top 66
abbrev KC:Stmt:=top 67
abbrev KD:Stmt:=top 68
abbrev KF:Stmt:=top 69
abbrev KG:Stmt:=top 70
abbrev KH:Stmt:=top 71
abbrev KI:Stmt:=top 72
abbrev KJ:Stmt:=top 74
abbrev afE:Stmt:=inClass (top 75) 0
abbrev KL:Stmt:=top 76
abbrev KM:Stmt:=top 77
abbrev KN:Stmt:=top 78
abbrev KO:Stmt:=top 79
abbrev KP:Stmt:=top 80
abbrev KQ:Stmt:=top 81
abbrev KR:Stmt:=top 82
abbrev afF:Stmt:=inClass (top 84) 0
abbrev KS:Stmt:=top 85
abbrev KU:Stmt:=top 86
abbrev KW:Stmt:=top 87
abbrev KY:Stmt:=top 88
abbrev KZ:Stmt:=top 89
abbrev K0:Stmt:=top 90
abbrev K1:Stmt:=top 91
abbrev K2:Stmt:=top 92
abbrev K3:Stmt:=top 93
abbrev K4:Stmt:=top 94
abbrev K5:Stmt:=top 95
abbrev afG:Stmt:=inClass (top 103) 0
abbrev afH:Stmt:=inClass (top 104) 0
abbrev K6:Stmt:=top 105
abbrev K7:Stmt:=top 106
abbrev K8:Stmt:=top 107
abbrev K9:Stmt:=top 108
abbrev La:Stmt:=top 109
abbrev Lb:Stmt:=top 110
abbrev Lc:Stmt:=top 112
abbrev afI:Stmt:=inClass (top 116) 0
abbrev Ld:Stmt:=top 117
abbrev Le:Stmt:=top 118
abbrev Lf:Stmt:=top 119
abbrev Lg:Stmt:=top 120
abbrev Lh:Stmt:=top 121
abbrev Li:Stmt:=top 125
abbrev afJ:Stmt:=inClass (top 127) 0
abbrev qv:Stmt:=top 128
abbrev Lj:Stmt:=top 129
abbrev Lk:Stmt:=top 130
abbrev Ll:Stmt:=top 131
abbrev afK:Str:="are_in_order_lockers"
end HD
end
section
namespace HD
open PySem PySem.Spec PyProof.Rows L2
open PySem.W (Codec)
def o4(H H':Hp)(p:Addr)(o:HO):Prop:=ai H H'/\H p=none/\H' p=some o
def aK{H:Hp}{p:Addr}{o:HO}(h:H p=none):ai H (upd H p o):=λb u e=>by rw[aq (eQ e h)];exact e
def fe{H H1:Hp}{p:Addr}{o:HO}(s:ai H H1)(h:H p=none):ai H (upd H1 p o):=λb u e=>by rw[aq (eQ e h)];exact s b u e
def codes(x:Str):LI:=x.cps.toList.map λn=>((n:Nat):Int)
abbrev iv(l:LI):au:=l.map V.int
def Tg(l:LI)(z:Int):iv (l++[z])=iv l++[.int z]:=by
 simp
def eM{A B:Hp->Prop}(h:A H):Bw σ H (λb j=>if b=true then A j else B j):=by
 delta Bw;symm
def take_snoc{α:Type}{l:List α}{i:Nat}{x:α}(h:l[i]? =some x):l.take (i+1)=l.take i++[x]:=by
 rw[List.take_succ,h];rfl
def gi{n:Nat}(h:n<=1000000):n<sizeLine:=pP h (by rw[xl];decide)
inductive B4(vs:au)(H:Hp)(Q:VK)(E':XK):Prop
 |mk (x:Str) (_:vs=[.str x]) (_:x.cps.size<=100000) (_:∀H' p,Ϧ (.lst (iv ţ))->Q ĥ H')
section
variable{P:Pg}{w:Wd}{K:FR}{mg:MG}{base:Heap}
def Lm:bO ["written","sign"] ["written"] (aZ Ke):=í
def afL{f:Addr}{fd:FD}(F:bu K "spelled" "spelled" Ke f fd)(j:mg "ord"=none):Ì aE 1 f fd ["written"] B4:=by
 refine F.ok Lm Â;let(x,rfl,G,k):=h;refine⟨_,aD (a7 (eE (own:=[("sign",1)]) Á Lm.nd (acY Û) Ë (λ_ _ _ _ _=>dw 1 Lm.nd) Ö
  (λ_ _ _ _ _=>df aaQ Ô j boot_ord Ř))),?_⟩
 apply(_,Á,x,Á,λD m=>adN (λi H'=>ai H H'/\H' D=some (.lst (iv ((codes x).take i)))) ⟨aK m,ao⟩ (λi c H' hc ⟨S,hd⟩=>⟨Á,eM ?_⟩) (λH' ⟨S,hd⟩=>?_))
 .let z:=(AU.mp hc).1;let J:ţ[i]? =some (c:Int):=by
   delta codes;symm
  apply(_,Á,_,Á,Á,_,hd,?_,fe S m,?_)
  .rw[az,nr];exact pP (Nat.min_le_left _ _) (gi Å)
  .rw[ao,take_snoc J,Tg];rfl
 .apply k H' D ⟨S,m,?_⟩;rw[hd];let:(codes x).length=x.cps.size:=by delta codes;rw[az,xm]
  grind
abbrev eG(H:Hp)(j:LA)(L:c7):Prop:=Paired (λq l=>H q=some ŋ) j L
inductive wq(K:FR)(vs:au)(H:Hp)(Q:VK)(E':XK):Prop
 |mk (a:Addr) (m:Int) (ns:LI) (_:vs=[.ref a,.int m]) (_:ä a (iv ns)) (_:ns.length<=100000) (_:∀H' p qs,Ϧ Ē->eG H' qs (JM.aJ m ns)->qs.Nodup->p∉qs->(∀q∈qs,H q=none)->Q ĥ H')
def eG.same(h:eG H qs L)(s:ai H H'):eG H' qs L:=Paired.md h λq l e=>s _ _ e
def eG.len(h:eG H qs L):qs.length=L.length:=Paired.length h
theorem eG.upd(h:eG H qs L)(n:p∉qs):eG (upd H p o) qs L:=by
 induction h with
 |nil=>exact .nil
 |cons r t I=>exact .cons (by rw[aq (λz=>n (by rw[z];exact fG))];exact r) (I λz=>n (aP _ z))
theorem eG.mem(h:eG H qs L):∀q∈qs,∃l∈L,H q=some ŋ:=by
 induction h with
 |nil=>intro q h;cases h
 |cons r t I=>
  intro q h;rcases a0.mp h with rfl|h
  .exact(_,fG,r)
  .let(l,j,e):=I q h;exact(l,aP _ j,e)
theorem eG.snoc(e:H q=some ŋ)(h:eG H qs L):eG H (qs++[q]) (L++[l]):=by
 induction h with
 |nil=>exact .cons e .nil
 |cons r t I=>exact .cons r I
theorem eG.last(h:eG H qs L):L≠[]->∃G q,qs=G++[q]/\eG H G L.dropLast/\H q=some (.lst (iv (L.getLastD []))):=by
 induction h with
 |nil=>exact λh=>absurd Á h
 |cons r t I=>
  intro _;cases t with
  |nil=>exact([],_,Á,.nil,r)
  |cons z t=>
   let(G,j,e,t',m):=I Ä;exact(_::G,j,by rw[e];rfl,.cons r t',m)
def Ln:bO ["text","mark","parts","byte"] ["text","mark"] (aZ Kf):=í
theorem Fh(m:Int):∀l:LI,(JM.aJ m l).length<=l.length+1:=by
 intro l;induction l with
 |nil=>
  simp[JM.aJ]
 |cons x r I=>
  let I:=I;delta JM.aJ;split
  .simp only[dc];omega
  .split
   .simp
   .rename_i w l e;rw[e] at I;simp only[dc] at I⊢;omega
theorem x9(m:Int)(l:LI):∀(w:LI),w∈JM.aJ m l->w.length<=l.length:=by
 induction l with
 |nil=>
  intro w h;simp[JM.aJ] at h;simp[h]
 |cons x r I=>
  intro w h;let I:=I;delta JM.aJ at h;split at h
  .rcases a0.mp h with rfl|h
   .simp
   .let:=I w h;simp only[dc];omega
  .cases e:JM.aJ m r with
   |nil=>exact absurd e (JM.lZ m r)
   |cons W l=>
    rw[e] at h I;rcases a0.mp h with rfl|h
    .let:=I W fG;simp only[dc];omega
    .let:=I w (aP _ h);simp only[dc];omega
inductive CtI(a p:Addr)(m:Int)(ns:LI)(H:Hp)(i:Nat)(σ:L2.St)(H':Hp):Prop
 |mk (v:Option V) (qs:LA) (_:σ=[some Ğ,some (.int m),some ĥ,v]) (_:ai H H') (_:H' p=some Ē) (_:eG H' qs (JM.aJ m Çy)) (_:qs.Nodup) (_:p∉qs) (_:∀q∈qs,H q=none)
def afO{f:Addr}{fd:FD}(F:bu K "cut" "cut" Kf f fd):Ì aE 1 f fd ["text","mark"] (wq K):=by
 refine F.ok Ln Â;let(a,m,ns,rfl,hS,hl,k):=h;refine⟨_,aB (cq 2 Ln.nd (d9 Äy))
  (aB (ϐ Äu (dw 3 Ln.nd)
   (aD (dj (cI ir ø ã (bV _))
    (aD (pZ (Ü ç Äy)))
    (aD (pZ (Ü (cA cZ ç (i8 jE bp) Ø) ĵ))))))
  Çd),?_⟩
 apply(dv _,λq0 U=>⟨(by show 1<=sizeLine;decide),λp W=>?_⟩);let qS:=(aK U).free W;let pq:p≠q0:=λz=>by rw[z,ao] at W;cases W
 refine⟨_,Á,a,Á,⟨_,(fe (aK U) qS).seq hS⟩,vO (K:=K) (a:=a) (xs:=iv ns) (CtI a p m ns H)
  ⟨none,[q0],rfl,fe (aK U) qS,ao,.cons (by rw[aq (d8 pq)];exact ao) .nil,by simp,À pq,À U⟩ (λi σ H' _ h=>(by let(_,_,_,S):=h;exact S.seq hS)) ?_ ?_⟩
 .rintro i y σ H' hi ⟨v,O,rfl,S,j,h2,J,G,M⟩;obtain⟨z,hz,rfl⟩:∃z,ns[i]? =some z/\y=V.int z:=by
   rw[bz] at hi;cases e:ns[i]? with
   |none=>rw[e] at hi;cases hi
   |some z=>rw[e] at hi;exact(z,Á,(aI hi).symm)
  let eA:=(bH.mp hz).1;let et:=take_snoc hz;let ec:=JM.afp m z Çy;let lq:O.length<=i+1:=by
   rw[h2.len];apply ia (Fh m _) ?_;rw[nr];omega
  refine⟨_,Á,_,Á,Á,_,Á,ba Î Î⟩
  .simp at hc;apply(_,Á,.inl ⟨Á,_,aa.of j⟩,dv _,λq I=>⟨p,_,_,Á,Á,(by rw[aq (eQ j I)];exact j),(by rw[az];exact gi Å),?_⟩);let Z:=S.free I;let Th:q∉O:=λhm=>by
    let(l,_,r):=eG.mem h2 q hm;rw[r] at I;cases I
   apply(_,O++[q],Á,fe (fe S Z) qS,?_,?_,?_,?_,?_)
   .rw[ao,bZ];rfl
   .rw[et,ec];delta JM.wk;rw[af hc];exact eG.upd (eG.snoc (l:=[]) ao (eG.upd h2 Th)) (λz=>by
     rcases gQ.mp z with z|z
     .exact G z
     .exact eQ j I (À z))
   .exact Jw J Th
   .intro z;rcases gQ.mp z with z|z
    .exact G z
    .exact eQ j I (À z)
   .intro q' z;rcases gQ.mp z with z|z
    .exact M q' z
    .rw[show q'=q by simpa using z];exact Z
  .simp at hc;let(gK,q,rfl,t',r'):=eG.last h2 (JM.lZ m _);let Y:=λz=>by
    let:=(PV.mp J).2.2 q z q Ä;exact this Á
   apply(_,Á,_,Á,p,_,_,V.ref q,Á,Á,aa.of j,?_,.inl ⟨Á,_,aa.of r'⟩,_,Á,q,_,_,Á,Á,r',?_,?_)
   .rw[bZ];exact vR _ _
   .rw[az];let:((JM.aJ m Çy).getLastD []).length<=(ns.take i).length:=by
     apply x9 m _ _ ?_;rw[List.getLastD_eq_getLast?];cases e:(JM.aJ m Çy).getLast? with
     |none=>exact absurd (aqr.mp e) (JM.lZ m _)
     |some l=>exact DS e
    rw[nr] at this;exact gi Å
   .let np:p≠q:=λz=>G (by rw[z];simp);apply(_,gK++[q],Á,fe S (M q Ä),by rw[aq np];exact j,?_,J,G,M);rw[et,ec];delta JM.wk;rw[ah hc];apply eG.snoc ?_ (eG.upd t' Y);rw[ao];exact cJ (λz=>some (HO.lst z)) (Tg _ _).symm
 .rintro σ H' ⟨v,O,rfl,S,j,h2,J,G,M⟩;rw[az,lN] at h2;exact(_,Á,k H' p O ⟨S,qS,j⟩ h2 J G M)
end
def oI:Option Nat->V
 |some i=>.int (i:Nat)
 |none=>.aL
def bj(j:c7)(part:LI):Option Nat:=j.findIdx? λw=>decide (w=part)
inductive B6(K:FR)(vs:au)(H:Hp)(Q:VK)(E':XK):Prop
 |mk (aw ap:Addr) (pL:LS) (part:LI) (_:vs=[.ref aw,.ref ap]) (_:ũ aw (pL.map V.str)) (_:(∀x∈pL,x.cps.size<=100000)) (_:ä ap Ãh) (_:∀H',ai H H'->Q (oI (bj (pL.map codes) part)) H')
def find_none{α:Type}{p:α->Bool}{l:List α}(h:∀x∈l,p x=false):l.findIdx? p=none:=by
 symm
theorem afQ{α:Type}{p:α->Bool}{l:List α}:∀{i:Nat}{x:α},l[i]? =some x->(∀y∈l.take i,p y=false)->p x=true->l.findIdx? p=some i:=by
 induction l with
 |nil=>intro i x h _ _;simp at h
 |cons a l I=>
  intro i x h j m;rw[Y4];cases i with
  |zero=>
   let e:=aI h;subst e;rw[m];rfl
  |succ i=>
   rw[j a Ä,I (i:=i) (x:=x) h (λy z=>j y (by rw[P0];exact aP _ z)) m];rfl
def ai.tup{K:FR}{H H':Hp}{a:Addr}{xs:au}(e:ai H H')(h:ũ a xs):bw K H' a xs:=by
 rcases h with (h|⟨o,h⟩)|h
 .exact .inl (.inl (e _ _ h))
 .exact .inl (.inr ⟨o,e _ _ h⟩)
 .exact .inr h
section
variable{P:Pg}{w:Wd}{K:FR}{mg:MG}{base:Heap}
def Ti:bO ["words","part","place","word"] ["words","part"] (aZ Kh):=í
def afR{f G:Addr}{fd ya:FD}(F:bu K "place_among" "place_among" Kh f fd)(tE:mg "enumerate"=none)(GS:Ì aE 1 G ya ["written"] B4)(mS:mg "spelled"=some (.ref G))(kS:PySem.W.keepIn K (.ref G)=true)(bS:Binds K ya ["written"] []):
  a9 P w K mg base aE 2 f fd ["words","part"] (B6 K):=by
 refine F.ok Ti Â;let(z,ap,m,part,rfl,Y,hw,hP,k):=h;refine⟨_,aB (mi qR Á (Sg Ô tE ó) (iL 2 3 Ti.nd)
   (aD (dj (cI (adX hr.units) (mq GS hr rfl mS kS bS .nil sS ĵ) ã (bV _)) Çd dY)))
  ſ,?_⟩
 refine⟨_,Á,z,_,Á,Y,Si (K:=K) (a:=z) (xs:=m.map V.str) (λi σ H'=>∃M O:Option V,σ=[some (.ref z),some Èy,M,O]/\ai H H'/\∀y∈(m.map codes).take i,decide (y=part)=false)
  ⟨none,none,rfl,ai.refl H,by simp⟩ (λi σ H' _ ⟨_,_,_,S,_⟩=>ai.tup S Y) ?_ ?_⟩
 .rintro i y T σ H' hi ⟨M,O,rfl,S,j⟩ hT;obtain⟨x,Z,rfl⟩:∃x,m[i]? =some x/\y=V.str x:=by
   grind
  let s2:=fe (o:=.tup [.int (i:Nat),.str x]) S (S.free hT);apply(T,_,Á,bw.of ao,Á,_,_,Á,_,_,Á,Á,_,Á,x,Á,hw x (bI Z),λH2 p U=>?_);let J:=s2.trans U.1;let js:(m.map codes)[i]? =some ţ:=by rw[bz,Z];rfl
  refine⟨_,Á,p,ap,codes x,part,Á,Á,aa.of U.2.2,J.seq hP,_,Á,ba Î Î⟩
  .refine Ģ;let e:=afQ js j hc;let q:=k H2 J;delta bj at q;rw[e] at q;exact q
  .apply(_,_,Á,J,λy I=>?_);rw[take_snoc js] at I;grind
 .rintro σ H' ⟨M,O,rfl,S,j⟩;let q:=k H' S;rw[az] at j;delta bj at q;rw[find_none (λy I=>j y (by rw[<-az (f:=codes),lN];exact I))] at q;exact q
def jJ(signs part:LI):Option LI:=if part.all (λb=>signs.contains b)=true then some (part.map λb=>((signs.idxOf b:Nat):Int)) else none
inductive Fj(K:FR)(vs:au)(H:Hp)(Q:VK)(E':XK):Prop
 |mk (x:Str) (ap:Addr) (part:LI) (_:vs=[.str x,.ref ap]) (_:x.cps.size<=100000) (_:ä ap Ãh) (_:part.length<=100000) (_:(jJ ţ part=none->∀H',ai H H'->Q .aL H')) (_:∀l,jJ ţ part=some l->∀H' p,Ϧ ŋ->Q ĥ H')
theorem Lo(b:Int):∀l:LI,vS (.int b) (iv l)=l.contains b:=by
 intro l;induction l with
 |nil=>exact Á
 |cons x l I=>
  let I:=I;delta vS iv at I⊢;rw[aX,ux,I,AQ];congr 1;show(x==b)=(b==x);by_cases h:x=b
  .subst h;rfl
  .let h2:¬b=x:=λz=>h z.symm;rw[xn.mpr h,xn.mpr h2]
theorem B7:∀l:LI,(iv l).all lW=true:=by
 intro l;induction l with
 |nil=>exact Á
 |cons x l I=>
  show(lW (.int x)&&(iv l).all lW)=true;rw[I];rfl
theorem sX{l:LI}{i:Nat}{y:V}(h:(iv l)[i]? =some y):∃z,l[i]? =some z/\y=V.int z:=by
 delta iv at h;rw[bz] at h;cases e:l[i]? with
 |none=>rw[e] at h;cases h
 |some z=>rw[e] at h;exact(z,Á,(aI h).symm)
def afS(l:List Bool)(b:Bool):(l++[b]).map V.bl=l.map V.bl++[.bl b]:=by
 simp
def Tj{l:LI}{b:Int}(h:l.contains b=true):∃j z,l.idxOf b=j/\(iv l)[j]? =some z/\qd z (.int b)=true/\∀(m:Nat)(Z:V),m<j->(iv l)[m]? =some Z->qd Z (.int b)=false:=by
 let J:b∈l:=À h
 let I:l.idxOf b<l.length:=List.idxOf_lt_length_of_mem J;apply(_,.int b,Á,?_,?_,λm Z F M=>?_)
 .delta iv;rw[bz,cY I,List.getElem_idxOf];rfl
 .show(b==b)=true;exact Y3 b
 .let(z,G,rfl):=sX M;show(z==b)=false;let:=List.not_of_lt_findIdx (p:=(· ==b)) (xs:=l) (i:=m) F;let(O,e):=bH.mp G;rw[e] at this;simpa using this
def zI:bO ["signs","part","known","byte"] ["signs","part"] (aZ Ki):=í
def afV{f S:Addr}{fd ya:FD}(F:bu K "places_in" "places_in" Ki f fd)(tA:mg "all"=none)(GS:Ì aE 1 S ya ["written"] B4)(mS:mg "spelled"=some (.ref S))(kS:PySem.W.keepIn K (.ref S)=true)(bS:Binds K ya ["written"] []):
  a9 P w K mg base aE 2 f fd ["signs","part"] (Fj K):=by
 refine F.ok zI Â;let(x,G,part,rfl,hx,I,hl,k0,k1):=h;refine⟨_,aB (cq 2 zI.nd (mq GS hr Á mS kS bS .nil sS ó))
  (aB (dj (pY (jD (df (vT rfl) Ô tA yR (ae (eE (own:=[("byte",3)]) (te:=bX (Ep K false) ŗ ś) rfl zI.nd Æy Ë (λ_ _ _ _ _=>dw 3 zI.nd) Ö
     (λ_ _ _ _ _=>jF IZ ø ç (by with_unfolding_all rfl))) ag)))) ſ dY)
  (aD (a7 (eE (own:=[("byte",3)]) (te:=Q4 K "list" (Rc K) ś Ãa) rfl zI.nd Æy Ë (λ_ _ _ _ _=>dw 3 zI.nd) Ö
     (λ_ _ _ _ _=>qe PySem.F.plainAttrs_list PySem.F.slot_list_index PySem.F.type_list_index Rf ç ĵ))))),?_⟩
 apply(_,Á,x,Á,hx,λH1 pk U=>?_);let s1:=U.1;refine⟨_,Á,G,Á,⟨_,s1.seq I⟩,λD Z=>gy (K:=K) (a:=G) (xs:=iv part) (λi H'=>ai H1 H'/\H' D=some (.lst (((part.take i).map λb=>(codes x).contains b).map V.bl))) ⟨aK Z,ao⟩
  (λi H' _ ⟨s2,_⟩=>(s1.trans s2).seq I) (λi y H' hi ⟨s2,hd⟩=>?_) (λH' ⟨s2,hd⟩=>?_)⟩
 .let(z,m,rfl):=sX hi;let eA:=(bH.mp m).1;apply(Á,eM ⟨_,Á,_,Á,pk,_,Á,.inl (aa.of (s2 _ _ U.2.2)),Á,B7 _,_,hd,?_,fe s2 Z,?_⟩)
  .rw[az,az,nr];exact gi Å
  .rw[ao,take_snoc m,bZ];show some (HO.lst (_++[V.bl (vS (.int z) (iv ţ))]))=some (HO.lst ((_++[_]).map V.bl));rw[afS,Lo]
 .rw[show(iv part).length=part.length by simp,lN] at hd;apply(D,_,Á,aa.of hd,_,Á,?_);let ea:(part.map λb=>(codes x).contains b).all id=part.all λb=>(codes x).contains b:=by
   simp
  rw[ea];refine ba Î Î
  .simp at hc;apply k0 ?_ H' Ác;delta jJ;symm
  .let hc:part.all (λb=>(codes x).contains b)=true:=by simpa using hc
   let e1:jJ ţ part=some (part.map λb=>(((codes x).idxOf b:Nat):Int)):=by
    delta jJ;symm
   refine⟨_,Á,G,Á,⟨_,(s1.trans s2).seq I⟩,λY M=>gy (K:=K) (a:=G) (xs:=iv part) (λi O=>ai H' O/\O Y=some (.lst (iv ((part.take i).map λb=>(((codes x).idxOf b:Nat):Int))))) ⟨aK M,ao⟩
    (λi O _ ⟨s3,_⟩=>((s1.trans s2).trans s3).seq I) (λi y O hi ⟨s3,J⟩=>?_) (λO ⟨s3,J⟩=>?_)⟩
   .let(z,m,rfl):=sX hi;let eA:=(bH.mp m).1;let(j,zz,ej,hj,Lp,B8):=Tj (kU.mp hc z (bI m));let hk:=(į) _ _ U.2.2;apply(Á,eM ⟨_,Á,.inl ⟨Á,_,aa.of hk⟩,_,Á,pk,_,_,j,zz,Á,Á,aa.of hk,Á,B7 _,hj,Lp,B8,_,J,?_,fe s3 M,?_⟩)
    .delta iv;rw[az,az,nr];exact gi Å
    .rw[ao,take_snoc m,bZ,<-ej];simp
   .rw[show(iv part).length=part.length by simp,lN] at J;exact k1 _ e1 O Y ⟨(s1.trans s2).trans s3,(s1.trans s2).free M,J⟩
def iw(part:LI):Option LI:=if part.length=16 then jJ JM.ly part else none
inductive Lq(K:FR)(vs:au)(H:Hp)(Q:VK)(E':XK):Prop
 |mk (ap:Addr) (part:LI) (_:vs=[.ref ap]) (_:ä ap Ãh) (_:part.length<=100000) (_:(iw part=none->∀H',ai H H'->Q .aL H')) (_:∀l,iw part=some l->∀H' p,Ϧ ŋ->Q ĥ H')
def afW:bO ["part"] ["part"] (aZ Kj):=í
def d7(l:LI):(iv l).length=l.length:=by delta iv;rw[az]
def afX(F:bu K "read_colours" "read_colours" Kj f fd)(tL:mg "len"=none)(mC:mg "COLOUR_SIGNS"=some uC)(U:RelV (.str "0123456789abcdef") uC)(G:Ì aE 2 fP Lr ["signs","part"] (Fj K)) (S:mg "places_in"=some (.ref fP)) (O:PySem.W.keepIn K (.ref fP)=true) (I:Binds K Lr ["signs","part"] []):
  a9 P w K mg base aE 3 f fd ["part"] (Lq K):=by
 refine F.ok afW Â;let(j,part,rfl,m,M,k0,k1):=h;refine⟨_,aB (dj (cI vP ć bp (bV _)) ſ dY)
  (aD (a7 (mq G hr rfl S O I .nil sS (ae (uF Ô mC U) ó)))),?_⟩
 refine⟨_,Á,j,_,Á,.inl m,Á,_,Á,ba Î Î⟩
 .let hc:¬part.length=16:=by
   grind
  apply k0 ?_ H Ž;delta iw;symm
 .let hc:part.length=16:=by
   grind
  let e:iw part=jJ (codes "0123456789abcdef") part:=by
   delta iw;rw[af hc];rfl
  exact(_,Á,_,j,part,Á,by decide,m,M,λz H' Y=>k0 Èc H' Y,λl z H' p J=>k1 l Èc H' p J)
end
def Dn(P:Pg)(w:Wd)(K:FR)(mg:MG)(base:Heap)(CX:nN)(k:Nat)(x:Str)(ps:LS)(sp:Sp):Prop:=
 ∃f fd,Ì CX k f fd ps sp/\mg x=some Ă/\PySem.W.keepIn K Ă=true/\L2.Binds K fd ps []
def Cn(mg:MG)(x:Str)(v:V):Prop:=∃u,mg x=some u/\RelV v u
def Tn(K:FR)(mg:MG)(x:Str)(xs:au):Prop:=∃a,mg x=some Ğ/\∀H,ũ a xs
def LstAt(H H':Hp):Option LI->V->Prop
 |none,v=>v=.aL
 |some l,v=>∃c,v=.ref c/\H c=none/\H' c=some ŋ
section
variable{X:Cx}
def bx{CX:nN}{k m:Nat}{x:Str}{ps:LS}{sp:Sp}{e:Expr}{es:List Expr}{t:TA}{p pos:Pos}{E:XK}(d:Dn X.prog X.w X.K X.mg X.base CX k x ps sp)(z:PA X (e::es) t)(hr:dy m X.A:=by assumption)(I:uI CX X E:=by exact sS)(hk:k<=m:=by decide)(G:Gl X x:=by rfl)(J:(x==("__debug__":Str))=false:=by decide)(F:starEach (e::es) X.env=(false,eval e X.env)::starEach es X.env:=by rfl)(j:(backTo pos õ).any (·.1)=false:=by rfl):PE X (.Call ώ (e::es) [] pos) (ie sp [] E t):=
 let ⟨_,_,g,a,b,c⟩:=d
 mq g (hr.mono hk) G a b c .nil I z J F j
def cf{x:Str}{v:V}{pos:Pos}(c:Cn X.mg x v)(j:Gl X x:=by rfl)(hd:(x==("__debug__":Str))=false:=by decide):PE X Ϻ (tC v):=let ⟨_,m,r⟩:=c;uF j m r hd
end
structure eN where
 a:Addr
 dx:Addr
 l:Addr
 shape:Nat
 cells:LI
structure cw where
 a:Addr
 dx:Addr
 l:Addr
 above:Bool
 below:Bool
 flags:List eN
structure eT where
 a:Addr
 dx:Addr
 cl:Addr
 gl:Addr
 side:Nat
 classes:LI
 ak:List cw
structure Cs where
 S:Addr
 G:Addr
 P:Addr
abbrev Nd:=Addr×HO
def wt(s:eN):List (Str×V):=[("shape",.int (s.shape:Nat)),("cells",.ref s.l)]
def qw(g:cw):List (Str×V):=[("above",.bl g.above),("below",.bl g.below),("flags",.ref g.l)]
def mG(p:eT):List (Str×V):=[("side",.int (p.side:Nat)),("classes",.ref p.cl),("glimpses",.ref p.gl)]
def iy(C:Cs)(s:eN):List Nd:=[(s.a,.ins C.S s.dx (wt s)),(s.l,.lst (iv s.cells))]
def gB(C:Cs)(g:cw):List Nd:=(g.a,.ins C.G g.dx (qw g))::(g.l,.lst (g.flags.map λs=>V.ref s.a))::g.flags.flatMap (iy C)
def eO(C:Cs)(p:eT):List Nd:=(p.a,.ins C.P p.dx (mG p))::(p.cl,.lst ő)::(p.gl,.lst (p.ak.map λg=>V.ref g.a))::p.ak.flatMap Åy
def Lies(H:Hp)(ns:List Nd):Prop:=∀x∈ns,H x.1=some x.2
def Lies.same{H H':Hp}{ns:List Nd}(h:Lies H ns)(s:ai H H'):Lies H' ns:=λx j=>s _ _ (h x j)
structure iO where
 above:Bool
 below:Bool
 flags:List (Nat×LI)
structure gj where
 side:Nat
 classes:LI
 ak:List iO
def eN.m(s:eN):Nat×LI:=(s.shape,s.cells)
def cw.m(g:cw):iO:=⟨g.above,g.below,g.flags.map eN.m⟩
def eT.m(p:eT):gj:=⟨p.side,p.classes,p.ak.map cw.m⟩
section
variable{C:Cs}{H:Hp}{p:eT}
def Lies.pl(h:Lies H Ál):H p.a=some (.ins C.P p.dx (mG p)):=h (p.a,_) (by delta eO;simp)
def Lies.cl(h:Lies H Ál):H p.cl=some (.lst ő):=h (p.cl,_) (by delta eO;simp)
def Lies.gl(h:Lies H Ál):H p.gl=some (.lst (p.ak.map λg=>V.ref g.a)):=h (p.gl,_) (by delta eO;simp)
def Lies.sub(h:Lies H Ál){g:cw}(j:g∈p.ak):Lies H Æv:=λx m=>h x (by
 delta eO;exact aP _ (aP _ (aP _ (kZ.mpr ⟨g,j,m⟩))))
def Lies.ga{g:cw}(h:Lies H Æv):H g.a=some (.ins C.G g.dx (qw g)):=h (g.a,_) (by delta gB;simp)
def Lies.fl{g:cw}(h:Lies H Æv):H g.l=some (.lst (g.flags.map λs=>V.ref s.a)):=h (g.l,_) (by delta gB;simp)
def Lies.zJ{g:cw}(h:Lies H Æv){s:eN}(hs:s∈g.flags):Lies H (iy C s):=λx j=>h x (by
 delta gB;exact aP _ (aP _ (kZ.mpr ⟨s,hs,j⟩)))
def Lies.sa{s:eN}(h:Lies H (iy C s)):H s.a=some (.ins C.S s.dx (wt s)):=h (s.a,_) (by delta iy;simp)
def Lies.sl{s:eN}(h:Lies H (iy C s)):H s.l=some (.lst (iv s.cells)):=h (s.l,_) (by delta iy;simp)
end
def gZ{f:Str}{v:V}{r:List (Str×V)}:((f,v)::r).lookup f=some v:=by
 rw[vC,Y3]
def fw{f g:Str}{v:V}{r:List (Str×V)}(h:(f==g)=false):((g,v)::r).lookup f=r.lookup f:=by
 rw[vC,h]
def To(p:eT):(mG p).lookup ("side":Str)=some (.int (p.side:Nat)):=gZ
def Ls(p:eT):(mG p).lookup ("classes":Str)=some (.ref p.cl):=(fw Ê).trans gZ
def nY(p:eT):(mG p).lookup ("glimpses":Str)=some (.ref p.gl):=(fw Ê).trans ((fw Ê).trans gZ)
def Tp(g:cw):(qw g).lookup ("above":Str)=some (.bl g.above):=gZ
def Tq(g:cw):(qw g).lookup ("below":Str)=some (.bl g.below):=(fw Ê).trans gZ
def wu(g:cw):(qw g).lookup ("flags":Str)=some (.ref g.l):=(fw Ê).trans ((fw Ê).trans gZ)
def Lu(s:eN):(wt s).lookup ("shape":Str)=some (.int (s.shape:Nat)):=gZ
def Fk(s:eN):(wt s).lookup ("cells":Str)=some (.ref s.l):=(fw Ê).trans gZ
structure mJ(K:FR)(C:Cs):Prop where
 cS:lh K C.S
 cG:lh K C.G
 cP:lh K C.P
 zK:gJ K C.S "shape"
 Fl:gJ K C.S "cells"
 Tr:gJ K C.G "above"
 Ts:gJ K C.G "below"
 wx:gJ K C.G "flags"
 Lv:gJ K C.P "side"
 Fm:gJ K C.P "classes"
 nZ:gJ K C.P "glimpses"
theorem qx{α:Type}(l:List α):l=[]\/∃r x,l=r++[x]:=by
 cases e:l.getLast? with
 |none=>exact .inl (aqr.mp e)
 |some x=>
  right;let(r,hr):=List.getLast?_eq_some_iff.mp e;exact(r,x,hr)
inductive Fn(C:Addr)(ns:LS)(vs:au)(H:Hp)(Q:VK)(E':XK):Prop
 |mk (x dx:Addr) (as:au) (_:vs=.ref x::as) (_:as.length=ns.length) (_:H x=some Âo) (_:∀H',H' x=some (.ins C dx (ns.zip as))->(∀b o,H b=some o->b≠x->H' b=some o)->Q .aL H')
def n0(P:Pg)(w:Wd)(K:FR)(mg:MG)(base:Heap)(x:Str)(C:Addr)(ns:LS):Prop:=
 ∃f fd,Mk K C f/\Ì aE 1 f fd ("self"::ns) (Fn C ns)/\mg x=some ā/\L2.Binds K fd ("self"::ns) []
def afY{f g:Str}{v x:V}{r:List (Str×V)}(h:¬g=f):iu f v ((g,x)::r)=(g,x)::iu f v r:=by
 show(if g=f then (g,v)::r else (g,x)::iu f v r)=_;rw[ah h]
section
variable{P:Pg}{w:Wd}{K:FR}{mg:MG}{base:Heap}{C:Cs}
end
def ite_yes{c A B:Prop}[Decidable c](hc:c)(h:A):if decide c=true then A else B:=by
 rw[af (eP hc)];exact h
def ite_no{c A B:Prop}[Decidable c](hc:¬c)(h:B):if decide c=true then A else B:=by
 rw[ah (À hc)];exact h
section
variable{X:Cx}
def qy{m:Nat}{x:Str}{C:Addr}{ns:LS}{e:Expr}{es:List Expr}{t:TA}{p pos:Pos}(d:n0 X.prog X.w X.K X.mg X.base x C ns)(hr:dy m X.A)(z:PA X (e::es) t)(hk:2<=m:=by decide)(G:Gl X x:=by rfl)(J:(x==("__debug__":Str))=false:=by decide)(F:starEach (e::es) X.env=(false,eval e X.env)::starEach es X.env:=by rfl)(j:(backTo pos õ).any (·.1)=false:=by rfl):PE X (.Call ώ (e::es) [] pos) (QJ C (Fn C ns) [] E0 t):=
 let ⟨_,_,M,g,a,c⟩:=d
 aa9 M g (hr.mono hk) G a c .nil sS z J F j
end
end HD
end
section
namespace HD
open PySem PySem.Spec PyProof.Rows L2
theorem afZ{f:Str}{v:V}{fs:List (Str×V)}:(∀x∈fs.map (·.1),¬x=f)->iu f v fs=fs++[(f,v)]:=by
 induction fs with
 |nil=>exact @λ_=>Á
 |cons j r I=>
  let(g,x):=j;intro h;rw[afY (h g Ä),I λy m=>h y (aP _ m)];rfl
def Fo(K:FR):Nat->LS->TS
 |_,[]=>Qr
 |k,[n]=>Em K ϔ (ay k) n
 |k,n::ns=>IE (Em K ϔ (ay k) n) (Fo K (k+1) ns)
theorem Tv{K:FR}{C x dx:Addr}(c:lh K C){σ:L2.St}(G:σ[0]? =some (some (V.ref x))){D:Ends}:∀(ns:LS)(as:au)(done:List (Str×V))(k:Nat)(H:Hp),as.length=ns.length->(∀(i:Nat)a,as[i]? =some a->σ[k+i]? =some (some a))->H x=some (.ins C dx done)->done.length+ns.length<=1000->
  (∀n∈ns,n∉done.map (·.1))->ns.Nodup->(∀n∈ns,ϭ n)->(∀H',H' x=some (.ins C dx (done++ns.zip as))->(∀b o,H b=some o->b≠x->H' b=some o)->D.nx σ H')->Fo K k ns D σ H
 |[],as,done,k,H,hl,ha,hx,hs,hf,hd,hn,q=>by
  obtain rfl:as=[]:=À hl
  exact q H (À hx) λb o e _=>e
 |n::ns,a::as,done,k,H,hl,ha,hx,hs,hf,hd,hn,q=>by
  rw[dc] at hs;let(M,O):=kO.mp hd;let J:iu n a done=done++[(n,a)]:=afZ λy z e=>hf n Ä (by rw[<-e];exact z);let step:∀F:Ends,F.nx σ (Áj (.ins C dx (done++[(n,a)])))->Em K ϔ (ay k) n F σ H:=λF h=>by
   apply(a,ha 0 a Á,_,G,x,C,dx,done,Á,hx,c,hn n Ä,by omega,?_);rw[J];exact h
  let bQ:∀H',H' x=some (.ins C dx ((done++[(n,a)])++ns.zip as))->(∀b o,Áj (.ins C dx (done++[(n,a)])) b=some o->b≠x->H' b=some o)->D.nx σ H':=λH' S h2=>by
   apply q H' (by rw[S,sv];rfl) λb o e I=>h2 b o ?_ I;rw[aq I];exact e
  cases ns with
  |nil=>
   obtain rfl:as=[]:=À hl
   exact step D (bQ _ (by rw[ao];simp) λb o e _=>e)
  |cons m ms=>
   apply step _ (Tv c G (m::ms) as (done++[(n,a)]) (k+1) _ (À hl) (λi b e=>?_) ao (by simp at hs⊢;omega) (λy z j=>?_) O (λy z=>hn y (aP _ z)) bQ)
   .rw[show k+1+i=k+(i+1) by omega];exact ha (i+1) b e
   .rw[bZ] at j;rcases gQ.mp j with j|j
    .exact hf y (aP _ z) j
    .obtain rfl:y=n:=by simpa using j
     exact M z
def af0{P:Pg}{w:Wd}{K:FR}{mg:MG}{base:Heap}{C:Addr}{ns:LS}{m:Str}{st:Stmt}{f:Addr}{fd:FD}(F:bu K "__init__" m st f fd)(c:lh K C)(n:∀n∈ns,ϭ n)(S:bO ("self"::ns) ("self"::ns) Áh)(hs:ns.length<=1000)(d:∀aG A outer s H E,k9 (ϕ ("self"::ns) m Áh f aG A outer s H E).vL Åq (Fo K 1 ns)):Ì aE 1 f fd ("self"::ns) (Fn C ns):=by
 refine F.ok S (len:=λvs H Q E h=>(by let(x,dx,as,rfl,j,_):=h;exact cJ (· +1) j)) Â;let(x,dx,as,rfl,j,z,k):=h;apply(_,d aG A outer s H E,Tv c (by delta L2.start;rfl) ns as [] 1 H j (λi a e=>?_) z (À hs) Ä (kO.mp S.nd).2 n λH' h2 G=>k H' h2 G);delta L2.start;let hi:=(bH.mp e).1;rw[HL (by simp;omega),bz,show 1+i=i+1 by omega,aqh,e];rfl
end HD
end
section
namespace HD
open PySem PySem.Spec PyProof.Rows L2
open PySem.W (Codec)
def jZ(line:LI):Option LI:=if line.length=4 then jJ JM.qt line else none
inductive Tw(K:FR)(vs:au)(H:Hp)(Q:VK)(E':XK):Prop
 |mk (ap:Addr) (line:LI) (_:vs=[.ref ap]) (_:ä ap Æe) (_:line.length<=100000) (_:∀H' v,ai H H'->LstAt H H' (jZ line) v->Q v H')
section
variable{P:Pg}{w:Wd}{K:FR}{mg:MG}{base:Heap}
def af1:bO ["line"] ["line"] (aZ KC):=cu
def af2(F:bu K "read_row" "read_row" KC f fd)(tL:mg "len"=none)(I:Cn mg "ROW" (.int 4))(cS:Cn mg "SEEN_SIGNS" (.str "0123456789abcdef?"))(J:Ç 2 "places_in" ["signs","part"] (Fj K)):Ì aE 3 f fd ["line"] (Tw K):=by
 refine F.ok af1 Â;let(m,part,rfl,G,M,k):=h;refine⟨_,aB (dj (cI vP ć (cf I) (bV _)) ſ dY)
  (aD (a7 (bx (hr:=hr) J (ae Æz ó)))),?_⟩
 refine⟨_,Á,m,_,Á,.inl G,Á,_,Á,ba Î Î⟩
 .let hc:¬part.length=4:=by
   grind
  apply k H .aL Ž ?_;delta jZ;rw[ah hc];rfl
 .let hc:part.length=4:=by
   grind
  let e:jZ part=jJ (codes "0123456789abcdef?") part:=by
   delta jZ;rw[af hc];rfl
  exact(_,Á,_,m,part,Á,by decide,G,M,λz H' S=>k H' _ S (by rw[e,z];rfl),λl z H' p j=>k H' _ j.1 (by rw[e,z];exact(p,rfl,j.2.1,j.2.2)))
def dZ(line:LI):Option (Nat×LI):=match JM.aJ 32 line with
 |[a,b,c]=>if a=JM.jI then (match bj JM.uX b,iw c with
  |some s,some l=>some (s,l)
  |_,_=>none) else none
 |_=>none
def zL(H H':Hp):Option (Nat×LI)->V->Prop
 |none,v=>v=.aL
 |some (s,l),v=>∃t c,v=.ref t/\H t=none/\H c=none/\H' t=some (.tup [.int (s:Nat),.ref c])/\H' c=some ŋ
inductive Tx(K:FR)(vs:au)(H:Hp)(Q:VK)(E':XK):Prop
 |mk (ap:Addr) (line:LI) (_:vs=[.ref ap]) (_:ä ap Æe) (_:line.length<=100000) (_:∀H' v,ai H H'->zL H H' (dZ line) v->Q v H')
def Fp:bO ["line","words","side","classes"] ["line"] (aZ KB):=cu
def yb:LS:=["front","behind","unknown"]
def af3(F:bu K "read_side" "read_side" KB f fd)(tL:mg "len"=none)(cB:Cn mg "BLANK" Åe)(cS:Tn K mg "SIDES" (yb.map V.str))(dC:Ç 1 "cut" ["text","mark"] (wq K)) (dS:Ç 1 "spelled" ["written"] B4) (dA:Ç 2 "place_among" ["words","part"] (B6 K)) (dR:Ç 3 "read_colours" ["part"] (Lq K)):
  a9 P w K mg base aE 4 f fd ["line"] (Tx K):=by
 let(aS,mS,hS):=cS;refine F.ok Fp Â;let(ap,line,rfl,hP,hl,k):=h;let uY:dy 1 _:=hr.mono Ù;let sY:dy 2 _:=hr.mono Ù;refine⟨_,aB (cq 1 Fp.nd (bx (hr:=uY) dC (ae Û ž)))
  (aB (dj (PW.pt (pw_or (cI vP ý bp (bV _))
    (pw_or1 (cI (So hr.units) (cA cZ ã bp Ø) (bx (hr:=uY) dS (ae D7 ag)) (bV _))))) ſ dY)
  (aB (cq 2 Fp.nd (bx (hr:=sY) dA (ae (uF (v:=.ref aS) Ô mS rfl) ř)))
  (aB (cq 3 Fp.nd (bx (hr:=hr) dR ř))
  (aB (dj (PW.pt (pw_or Ær (pw_or1 (nI (qX ø))))) ſ dY)
  (aD (a7 (uH (ae ç ĵ)))))))),?_⟩
 apply(_,Á,ap,32,line,Á,hP,hl,λH1 p Z J j nd np hf=>?_);let cO:((Z.map V.ref).length:Int)=((JM.aJ 32 line).length:Nat):=by rw[az,j.len]
 let s1:=J.1;refine⟨_,Á,p,_,Á,.inl (aa.of J.2.2),Á,_,Á,ba Î Î⟩
 .apply k H1 .aL s1 ?_;let:dZ line=none:=by
   delta dZ;grind
  rw[this];rfl
 .let h3:(JM.aJ 32 line).length=3:=by
   grind
  obtain⟨a,b,c,I⟩:∃a b c,JM.aJ 32 line=[a,b,c]:=by
   match JM.aJ 32 line,h3 with
   |[a,b,c],_=>exact(a,b,c,Á)
  rw[I] at j;let Lw:∀w∈[a,b,c],w.length<=100000:=λw hw=>ia (x9 32 line w É) hl;obtain⟨qa,qb,qc,rfl⟩:∃x y z,Z=[x,y,z]:=by
   let:=j.len
   match Z,this with
   |[x,y,z],_=>exact(x,y,z,Á)
  cases j with
  |cons ha j=>
   cases j with
   |cons hb j=>
    cases j with
    |cons jo j=>
     apply⟨_,Á,p,_,0,V.ref qa,Á,Á,aa.of J.2.2,Á,"seen",Á,by decide,λH2 p2 M=>?_⟩;let G:=s1.trans M.1;refine⟨qa,p2,a,codes "seen",Á,Á,aa.of (M.1 _ _ ha),aa.of M.2.2,_,Á,ba ě ě⟩
     .apply k H2 .aL G ?_;let:dZ line=none:=by
       delta dZ;rw[I];show(if a=JM.jI then _ else none)=none;simp at hd;rw[ah (λz=>hd (z.trans rfl))]
      rw[this];rfl
     .simp at hd;apply(_,Á,p,_,1,V.ref qb,Á,Á,aa.of (M.1 _ _ J.2.2),Á,aS,qb,yb,b,Á,hS H2,by decide,aa.of (M.1 _ _ hb),λH3 S=>?_);apply(_,Á,p,_,2,V.ref qc,Á,Á,aa.of (S _ _ (M.1 _ _ J.2.2)),Á,qc,c,Á,aa.of (S _ _ (M.1 _ _ jo)),Lw c Ä,λz W O=>?_,λl z W p4 U=>?_)
      .
       let en:dZ line=none:=by
        delta dZ;rw[I];show(if a=JM.jI then _ else none)=none;rw[af (show a=JM.jI from hd),z];cases bj JM.uX b <;> rfl
       apply(_,Á,_,Á,ba (λ_=>?_) (λ_=>⟨_,Á,_,Á,lx ?_⟩))
       .exact k W .aL ((G.trans S).trans O) (by rw[en];rfl)
       .exact k W .aL ((G.trans S).trans O) (by rw[en];rfl)
      .let O:=U.1;apply(_,Á,_,Á,ba (λm=>?_) (λm=>⟨_,Á,_,Á,nV ?_⟩))
       .simp at m;let en:dZ line=none:=by
         delta dZ;rw[I];show(if a=JM.jI then _ else none)=none;rw[af (show a=JM.jI from hd),show JM.uX=yb.map codes from rfl];cases e:bj Èk b with
         |none=>rfl
         |some i=>rw[e] at m;cases m
        exact k W .aL ((G.trans S).trans O) (by rw[en];rfl)
       .simp at m;obtain⟨i,ei⟩:∃i,bj Èk b=some i:=by
         cases e:bj Èk b with
         |none=>rw[e] at m;exact absurd Á m
         |some i=>simp
        let en:dZ line=some (i,l):=by
         delta dZ;rw[I];show(if a=JM.jI then _ else none)=_;rw[af (show a=JM.jI from hd),z,show JM.uX=yb.map codes from rfl,ei]
        apply(_,Á,_,Á,(by show 2<=sizeLine;decide),λt Y=>?_);let s5:=(G.trans S).trans O;apply k _ (.ref t) (fe s5 (s5.free Y)) ?_;rw[en];apply(t,p4,Á,s5.free Y,(G.trans S).free U.2.1,?_,?_)
        .rw[ao,ei];rfl
        .rw[aq (eQ U.2.2 Y)];exact U.2.2
end
inductive Told where
 |side (s:Nat) (l:LI)
 |hoist (k:Nat)
 |shape (k:Nat)
 |row (l:LI)
def Told.sort:Told->Nat
 |.side _ _=>0
 |.hoist _=>1
 |.shape _=>2
 |.row _=>3
def j0(line:LI):Option Told:=match dZ line with
 |some x=>some (.side x.1 x.2)
 |none=>match bj JM.iE line with
  |some k=>some (.hoist k)
  |none=>match bj JM.iF line with
   |some k=>some (.shape k)
   |none=>(jZ line).map .row
def zM(H H':Hp):Told->V->Prop
 |.side s l,v=>∃t c,v=.ref t/\H c=none/\H' t=some (.tup [.int (s:Nat),.ref c])/\H' c=some ŋ
 |.hoist k,v=>v=.int (k:Nat)
 |.shape k,v=>v=.int (k:Nat)
 |.row l,v=>∃c,v=.ref c/\H c=none/\H' c=some ŋ
def af4(H H':Hp):Option Told->V->Prop
 |none,v=>v=.aL
 |some t,v=>∃q y,v=.ref q/\H q=none/\H' q=some (.tup [.int (t.sort:Nat),y])/\zM H H' t y
inductive Tz(K:FR)(vs:au)(H:Hp)(Q:VK)(E':XK):Prop
 |mk (ap:Addr) (line:LI) (_:vs=[.ref ap]) (_:ä ap Æe) (_:line.length<=100000) (_:∀H' v,ai H H'->af4 H H' (j0 line) v->Q v H')
def TF:LS:=["hoist","hoist above","hoist below","hoist above below"]
def TJ:LS:=["square","tails","long","shape?"]
theorem zM.same(h:zM H H1 t v)(s:ai H1 H2):zM H H2 t v:=by
 cases t with
 |side a l=>let(t,c,j,h2,m,z):=h;exact(t,c,j,h2,s _ _ m,s _ _ z)
 |hoist k=>exact h
 |shape k=>exact h
 |row l=>let(c,j,h2,m):=h;exact(c,j,h2,s _ _ m)
def af5(F:zL H H' (dZ line) v0)(G:LstAt H H' (jZ line) v3)(m:[v0,oI Ŀ,oI ľ,v3][i]? =some x) (J:x≠ .aL) (hb:∀j y,j<i->[v0,oI Ŀ,oI ľ,v3][j]? =some y->y=.aL):
  ∃t,j0 line=some t/\t.sort=i/\zM H H' t x:=by
 let M:v0=.aL->dZ line=none:=λz=>by
  cases e:dZ line with
  |none=>rfl
  |some p=>
   rw[e] at F;let(t,c,I,_):=F;symm
 let O:∀o:Option Nat,oI o=.aL->o=none:=λo z=>by
  cases o with
  |none=>rfl
  |some k=>cases z
 match i,m with
 |0,m=>
  let ex:=aI m;subst ex;cases e:dZ line with
  |none=>rw[e] at F;exact absurd F J
  |some p=>
   rw[e] at F;let(t,c,I,h2,G,S,W):=F;refine⟨.side p.1 p.2,by delta j0;rw[e],rfl,t,c,I,G,S,W⟩
 |1,m=>
  let ex:=aI m;let Z:=M Æu;cases e:bj JM.iE line with
  |none=>rw[e] at ex;exact absurd ex.symm J
  |some k=>
   rw[e] at ex;exact(.hoist k,by delta j0;rw[Z,e],rfl,ex.symm)
 |2,m=>
  let ex:=aI m;let Z:=M Æu;let U:=O _ (hb 1 _ Å rfl);cases e:bj JM.iF line with
  |none=>rw[e] at ex;exact absurd ex.symm J
  |some k=>
   rw[e] at ex;exact(.shape k,by delta j0;rw[Z,U,e],rfl,ex.symm)
 |3,m=>
  let ex:=aI m;subst ex;let Z:=M Æu;let U:=O _ (hb 1 _ Å rfl);let Y:=O _ (hb 2 _ Å rfl);cases e:jZ line with
  |none=>rw[e] at G;exact absurd G J
  |some l=>
   rw[e] at G;let(c,I,h2,S):=G;exact(.row l,by delta j0;rw[Z,U,Y,e];rfl,rfl,c,I,h2,S)
 |i+4,m=>simp at m
def af6(z:zL H H' (dZ line) v0)(F:LstAt H H' (jZ line) v3)(m:∀j y,j<4->[v0,oI Ŀ,oI ľ,v3][j]? =some y->y=.aL):j0 line=none:=by
 let J:=m 0 v0 Å rfl;let Z:=m 1 _ Å rfl;let G:=m 2 _ Å rfl;let M:=m 3 v3 Å rfl;delta j0;cases e:dZ line with
 |some p=>
  rw[e] at z;let(t,c,I,_):=z;symm
 |none=>
  cases e1:bj JM.iE line with
  |some k=>rw[e1] at Z;cases Z
  |none=>
   cases e2:bj JM.iF line with
   |some k=>rw[e2] at G;cases G
   |none=>
    cases e3:jZ line with
    |some l=>
     rw[e3] at F;let(c,I,_):=F;symm
    |none=>rfl
theorem zL.same(h:zL H H1 o v)(S:ai H0 H)(s:ai H1 H2):zL H0 H2 o v:=by
 cases o with
 |none=>exact h
 |some p=>let(t,c,j,h2,m,z,F):=h;exact(t,c,j,S.free h2,S.free m,s _ _ z,s _ _ F)
theorem LstAt.same(h:LstAt H H1 o v)(S:ai H0 H)(s:ai H1 H2):LstAt H0 H2 o v:=by
 cases o with
 |none=>exact h
 |some p=>let(c,j,h2,m):=h;exact(c,j,S.free h2,s _ _ m)
section
variable{P:Pg}{w:Wd}{K:FR}{mg:MG}{base:Heap}
def Ly:bO ["line","readings","sort","told"] ["line"] (aZ KA):=cu
def af7(F:bu K "read_line" "read_line" KA f fd)(tE:mg "enumerate"=none)(cH:Tn K mg "HOIST_LINES" (TF.map V.str))(cS:Tn K mg "SEEN_SHAPES" (TJ.map V.str))(dS:Ç 4 "read_side" ["line"] (Tx K)) (dA:Ç 2 "place_among" ["words","part"] (B6 K)) (dR:Ç 3 "read_row" ["line"] (Tw K)):
  a9 P w K mg base aE 5 f fd ["line"] (Tz K):=by
 let(aH,mH,hH):=cH;let(aS,mS,hS):=cS;refine F.ok Ly Â;let(ap,line,rfl,I,hl,k):=h;let sY:dy 2 _:=hr.mono Ù;let B9:dy 3 _:=hr.mono Ù;refine⟨_,aB (cq 1 Ly.nd (uH (ae (bx (hr:=hr) dS ó)
   (ae (bx (hr:=sY) dA (ae (uF (v:=.ref aH) Ô mH rfl) ó))
   (ae (bx (hr:=sY) dA (ae (uF (v:=.ref aS) Ô mS rfl) ó))
   (ae (bx (hr:=B9) dR ó) ag))))))
  (aB (ϐ (Sg Ô tE Ř) (iL 2 3 Ly.nd)
   (aD (dj (nI (IA ø)) (aD (a7 (uH (ae ç ĵ)))) dY)))
  ſ),?_⟩
 apply(_,Á,ap,line,Á,I,hl,λH1 m s1 h0=>?_);apply(_,Á,aH,ap,TF,line,Á,hH H1,by decide,s1.seq I,λH2 W=>?_);let fg:=s1.trans W;apply(_,Á,aS,ap,TJ,line,Á,hS H2,by decide,fg.seq I,λH3 Y=>?_);let J:=fg.trans Y;apply(_,Á,ap,line,Á,J.seq I,hl,λO G Z h3=>?_);let oX:=J.trans Z;apply((by show 4<=sizeLine;decide),λtt TQ=>?_);let s5:=fe (o:=.tup [m,oI Ŀ,oI ľ,G]) oX (oX.free TQ);let sl:∀{H':Hp},ai (upd O tt (.tup [m,oI Ŀ,oI ľ,G])) H'->ai O H':=λz=>(aK TQ).trans z;refine⟨_,Á,tt,[m,oI Ŀ,oI ľ,G],Á,bw.of ao,Si (K:=K) (a:=tt) (xs:=[m,oI Ŀ,oI ľ,G])
  (λi σ H'=>∃u2 u3:Option V,σ=[some Èy,some (.ref tt),u2,u3]/\ai (upd O tt (.tup [m,oI Ŀ,oI ľ,G])) H'/\∀j y,j<i->[m,oI Ŀ,oI ľ,G][j]? =some y->y=.aL)
  ⟨none,none,rfl,ai.refl _,λj y hj _=>absurd hj Å⟩ (λi σ H' _ ⟨_,_,_,S,_⟩=>ai.tup S (bw.of ao)) ?_ ?_⟩
 .rintro i x T σ H' hi ⟨u2,u3,rfl,S,U⟩ hT;let M:=fe (o:=.tup [.int (i:Nat),x]) S (S.free hT);refine⟨T,_,Á,bw.of ao,Á,_,_,Á,_,_,Á,Á,_,Á,_,Á,ba Î Î⟩
  .simp at hc;apply(_,Á,_,Á,(by show 2<=sizeLine;decide),λq hq=>?_);let s8:=fe (o:=.tup [.int (i:Nat),x]) M (M.free hq);let s9:=s5.trans s8;let(t,et,es,ta):=af5 (h0.same Ž (((W.trans Y).trans Z).trans (sl s8))) (h3.same J (sl s8)) hi hc U;apply k _ Çm s9 ?_;rw[et];apply(q,x,Á,(s5.trans M).free hq,?_,ta);rw[ao,es]
  .simp at hc;apply(_,_,Á,M,λj y hj hy=>?_);grind
 .rintro σ H' ⟨u2,u3,rfl,S,U⟩;let en:=af6 (h0.same Ž (((W.trans Y).trans Z).trans (sl S))) (h3.same J (sl S)) U;exact k H' .aL (s5.trans S) (by rw[en];rfl)
end
def lD(m:gj):Bool:=match m.ak.getLast? with
 |some g=>g.flags.isEmpty
 |none=>false
def jK(m:gj):Bool:=match m.ak.getLast? with
 |some g=>(match g.flags.getLast? with
  |some s=>decide (s.2.length<16)
  |none=>false)
 |none=>false
def qA(m:gj):Bool:=!m.ak.isEmpty&&(!lD m&& !jK m)
def dJ(m:gj)(k:Nat):Bool:=
 if (m.classes.isEmpty||decide (k=0))=true then m.classes.isEmpty&&decide (k=0)
 else if (decide (k=3)||jK m)=true then decide (k=3)&&jK m
 else if decide (k=1)=true then decide (m.ak.length<4)&& !lD m
 else match m.ak.getLast? with
  |some g=>decide (g.flags.length<8)
  |none=>false
inductive qB(C:Cs)(b:gj->Bool)(vs:au)(H:Hp)(Q:VK)(E':XK):Prop
 |mk (p:eT) (_:vs=[.ref p.a]) (_:Lies H Ál) (_:∀H',ai H H'->Q (.bl (b p.m)) H')
def qB.len:∀vs H Q E,qB C b vs H Q E->vs.length=(["plate"]:LS).length:=λvs H Q E h=>by
 let(p,rfl,_):=h;rfl
def af8(h:m.ak=[]):lD m=false:=by delta lD;rw[h];rfl
def TU{p:eT}{gs:List cw}{g:cw}(h:p.ak=gs++[g]):lD p.m=g.flags.isEmpty:=by
 delta lD eT.m;rw[h,bZ,aX,lK,AZ,HX];show(g.flags.map eN.m).isEmpty=_;simp
def af9(h:m.ak=[]):jK m=false:=by delta jK;rw[h];rfl
def aga{p:eT}{gs:List cw}{g:cw}(h:p.ak=gs++[g])(j:g.flags=[]):jK p.m=false:=by
 delta jK eT.m;rw[h,bZ,aX,lK,AZ,HX];show(match (g.flags.map eN.m).getLast? with
  |some s=>decide (s.2.length<16)
  |none=>false)=_
 symm
def agb{p:eT}{gs:List cw}{g:cw}{ss:List eN}{s:eN}(h:p.ak=gs++[g])(j:g.flags=ss++[s]):jK p.m=decide (s.cells.length<16):=by
 delta jK eT.m;rw[h,bZ,aX,lK,AZ,HX];show(match (g.flags.map eN.m).getLast? with
  |some s=>decide (s.2.length<16)
  |none=>false)=_
 rw[j,bZ,aX,lK,AZ,HX];rfl
section
variable{P:Pg}{w:Wd}{K:FR}{mg:MG}{base:Heap}{C:Cs}
def agc:bO ["plate"] ["plate"] (aZ KF):=cu
def agd(F:bu K "lacks_flags" "lacks_flags" KF f fd)(T:mJ K C):Ì aE 1 f fd ["plate"] (qB C lD):=by
 refine F.ok agc Â;let(p,rfl,L,k):=h;refine⟨_,aD (a7 (uG (jF Áa Ŗ Ī (bV _))
  (sI (jF ϰ Ĥ Ī (bV _))))),?_⟩
 apply(_,Á,ū Åx ⟨dv _,λe1 M=>?_⟩);let S:ai H Ål:=aK M;apply(p.gl,e1,_,Á,Á,aa.of (S _ _ L.gl),aa.of ao,_,Á,?_);rcases qx p.ak with e|⟨gs,g,e⟩
 .rw[e];apply nV ?_;let q:=k _ S;rw[af8 (by delta eT.m;rw[e];rfl)] at q;exact q
 .let G:g∈p.ak:=by rw[e];simp
  let j:=L.same S;let ne:(!(p.ak.map λg=>V.ref g.a).isEmpty)=true:=by rw[e,bZ];simp
  rw[ne];apply lx ⟨_,Á,bc j.pl T.cP T.nZ Åx ⟨_,Á,p.gl,_,_,V.ref g.a,Á,Á,aa.of j.gl,?_,bc ((j.sub G).ga) T.cG T.wx (wu g) ⟨dv _,λJ O=>?_⟩⟩⟩
  .rw[e,bZ];exact vR _ _
  .let I:=fe (o:=.lst []) S (S.free O);let z:=L.same I;apply(g.l,J,_,Á,Á,aa.of (z.sub G).fl,aa.of ao,?_);let q:=k _ I;rw[TU e] at q;symm
def agf:bO ["plate"] ["plate"] (aZ KG):=cu
def agg(F:bu K "lacks_cells" "lacks_cells" KG f fd)(T:mJ K C)(tL:mg "len"=none)(W:Cn mg "CELLS" (.int 16))(Y:Ç 1 "lacks_flags" ["plate"] (qB C lD)):
  a9 P w K mg base aE 2 f fd ["plate"] (qB C jK):=by
 refine F.ok agf Â;let(p,rfl,L,k):=h;refine⟨_,aB (dj (PW.pt (pw_or (cI ϰ Ŗ Ī (bV _)) (pw_or1 (jD (bx Y ó))))) Âk dY)
  (aD (a7 (jF xE (df gc Ô tL PySem.boot_len (ae (bg (cA cZ Ĥ (i8 jE bp) Ø) rfl) ag)) (cf W) (bV _)))),?_⟩
 apply(_,Á,ū Åx ⟨dv _,λe1 Z=>?_⟩);let S:ai H Ål:=aK Z;let O:=L.same S;apply(p.gl,e1,_,Á,Á,aa.of O.gl,aa.of ao,_,Á,?_);rcases qx p.ak with e|⟨gs,g,e⟩
 .rw[e];apply lx ?_;let q:=k _ S;rw[af9 (by delta eT.m;rw[e];rfl)] at q;exact q
 .let I:g∈p.ak:=by rw[e];simp
  let ne:(p.ak.map λg=>V.ref g.a).isEmpty=false:=by rw[e,bZ];simp
  rw[ne];refine nV ⟨_,Á,p,Á,O,λU s2=>Ģ⟩;let M:=S.trans s2;let G:=L.same M;rw[TU e];rcases qx g.flags with j|⟨ss,sg,j⟩
  .rw[j];apply lx ?_;let q:=k _ M;rw[aga e j] at q;exact q
  .let hs:sg∈g.flags:=by rw[j];simp
   let J:g.flags.isEmpty=false:=by rw[j];simp
   rw[J];apply nV ⟨_,Á,bc G.pl T.cP T.nZ Åx ⟨_,Á,p.gl,_,_,V.ref g.a,Á,Á,aa.of G.gl,?_,bc ((G.sub I).ga) T.cG T.wx (wu g) ⟨_,Á,g.l,_,_,V.ref sg.a,Á,Á,aa.of (G.sub I).fl,?_,bc (((G.sub I).zJ hs).sa) T.cS T.Fl (Fk sg) ⟨sg.l,_,Á,.inl (aa.of ((G.sub I).zJ hs).sl),_,_,Á,Á,?_⟩⟩⟩⟩
   .rw[e,bZ];exact vR _ _
   .rw[j,bZ];exact vR _ _
   .let q:=k _ M;rw[agb e j] at q;show Q (V.bl (decide ((((iv sg.cells).length:Nat):Int)<16))) U;rw[d7,show decide (((sg.cells.length:Nat):Int)<16)=decide (sg.cells.length<16) by
     by_cases z:sg.cells.length<16
     .rw[eP z,eP Å]
     .rw[f7 z,f7 Å]]
    exact q
def agh:bO ["plate"] ["plate"] (aZ KH):=cu
def agi(F:bu K "has_whole_hoists" "has_whole_hoists" KH f fd)(T:mJ K C)(G:Ç 1 "lacks_flags" ["plate"] (qB C lD))(z:Ç 2 "lacks_cells" ["plate"] (qB C jK)):
  a9 P w K mg base aE 3 f fd ["plate"] (qB C qA):=by
 refine F.ok agh Â;let(p,rfl,L,k):=h;refine⟨_,aD (a7 (uG (jF Áa Ŗ Ī (bV _))
  (uG (Bg (bx G ó)) (sI (Bg (bx z ó)))))),?_⟩
 apply(_,Á,ū Åx ⟨dv _,λe1 I=>?_⟩);let s1:ai H Ål:=aK I;let j:=L.same s1;apply(p.gl,e1,_,Á,Á,aa.of j.gl,aa.of ao,_,Á,?_);let O:p.m.ak.isEmpty=p.ak.isEmpty:=by delta eT.m;cases p.ak <;> rfl
 rw[show(p.ak.map λg=>V.ref g.a).isEmpty=p.ak.isEmpty by simp];refine ba Î Î
 .refine⟨_,Á,p,Á,j,λJ s2=>⟨_,Á,_,Á,ba ě ě⟩⟩
  .refine⟨_,Á,p,Á,j.same s2,λM S=>Ģ⟩;let q:=k _ ((s1.trans s2).trans S);delta qA at q;grind
  .let q:=k _ Ác;delta qA at q;symm
 .let q:=k _ s1;delta qA at q;symm
inductive TX(C:Cs)(vs:au)(H:Hp)(Q:VK)(E':XK):Prop
 |mk (p:eT) (n:Nat) (_:vs=[.ref p.a,.int (n:Nat)]) (_:Lies H Ál) (_:∀H',ai H H'->Q (.bl (dJ p.m n)) H')
def agj:bO ["plate","sort"] ["plate","sort"] (aZ KD):=cu
def Fs(a b:Nat):decide (V.int (a:Nat)=V.int (b:Nat))=decide (a=b):=by
 grind
def dec_lt(a b:Nat):decide (((a:Nat):Int)<((b:Nat):Int))=decide (a<b):=by
 simp
def agk(F:bu K "may_stand" "may_stand" KD f fd)(T:mJ K C)(tL:mg "len"=none)(U:Cn mg "SIDE_LINE" Ō)(c1:Cn mg "HOIST_LINE" Ţ)(W:Cn mg "CELLS_LINE" (.int 3))(cH:Cn mg "MOST_HOISTS" (.int 4))(cF:Cn mg "MOST_FLAGS" (.int 8))(dF:Ç 1 "lacks_flags" ["plate"] (qB C lD)) (Z:Ç 2 "lacks_cells" ["plate"] (qB C jK)):
  a9 P w K mg base aE 3 f fd ["plate","sort"] (TX C):=by
 refine F.ok agj Â;let(p,n,rfl,L,k):=h;refine⟨_,aB (dj (PW.pt (pw_or (cI ϰ Ŗ Ī (bV _)) (pw_or1 (cI ir ã (cf U) (bV _)))))
   (aD (a7 (uG (jF ϰ Ĉ Ī (bV _)) (sI (jF ir ã (cf U) (bV _)))))) dY)
  (aB (dj (PW.pt (pw_or (cI ir ã (cf W) (bV _)) (pw_or1 (jD (bx Z ó)))))
   (aD (a7 (uG (jF ir ã (cf W) (bV _)) (sI (bx Z ó))))) dY)
  (aB (dj (cI ir ã (cf c1) (bV _))
   (aD (a7 (uG (jF xE (df gc Ô tL PySem.boot_len Äz) (cf cH) (bV _)) (sI (Bg (bx dF ó)))))) dY)
  (aD (a7 (uG (jF Áa Ĉ Ī (bV _)) (sI (jF xE (df gc Ô tL PySem.boot_len (ae Ĥ ag)) (cf cF) (bV _)))))))),?_⟩
 let ec:p.m.classes.isEmpty=(iv p.classes).isEmpty:=by delta eT.m iv;cases p.classes <;> rfl
 apply(_,Á,bc L.pl T.cP T.Fm (Ls p) ⟨dv _,λe1 n1=>?_⟩);let s1:ai H Ål:=aK n1;let O:=L.same s1;apply(p.cl,e1,_,Á,Á,aa.of O.cl,aa.of ao,_,Á,?_);rw[<-ec];let first:∀H1,ai H H1->(p.m.classes.isEmpty||decide (n=0))=true->Bi (IC (bX (Sq K) (fQ K ϔ "classes") (zf dQ)) (bX oQ ϓ Äk)) {nx:=λ_ H'=>Q .aL H',rt:=Q} [some Ãd,some (.int (n:Nat))] H1:=λH1 z hc=>by
  let M1:=L.same z;apply(_,Á,bc M1.pl T.cP T.Fm (Ls p) ⟨dv _,λe2 n2=>?_⟩);let t2:=fe (o:=.lst []) z (z.free n2);apply(p.cl,e2,_,Á,Á,aa.of (L.same t2).cl,aa.of ao,_,Á,?_);rw[<-ec];let q:=k _ t2;delta dJ at q;rw[af hc] at q;refine ba ě ě
  .apply(_,Á,Á,?_);symm
  .symm
 refine ba (λhc=>first _ s1 É) Î;let hc:p.m.classes.isEmpty=false:=À hc
 refine Ŵ;rw[show V.int 0=V.int ((0:Nat):Int) from rfl,Fs];refine ba (λhd=>first _ s1 É) ě;let hd:decide (n=0)=false:=À hd
 let Y:∀H1,ai H H1->(decide (n=3)||jK p.m)=true->Bi (IC (bX oQ ϓ (tC (.int 3))) (ie (qB C jK) [] E0 (bq ϔ dQ))) {nx:=λ_ H'=>Q .aL H',rt:=Q} [some Ãd,some (.int (n:Nat))] H1:=λH1 z h2=>by
  refine Ŵ;rw[show V.int 3=V.int ((3:Nat):Int) from rfl,Fs];apply ba (λj=>⟨_,Á,p,Á,L.same z,λH2 t2=>?_⟩) (λj=>?_)
  .let q:=k _ (z.trans t2);delta dJ at q;symm
  .simp at j;let q:=k _ z;delta dJ at q;symm
 refine Ŵ;rw[show V.int 3=V.int ((3:Nat):Int) from rfl,Fs];apply ba (λj=>Y _ s1 É) (λj=>⟨_,Á,p,Á,O,λH2 s2=>⟨_,Á,ba (λJ=>Y _ Ác É) (λJ=>?_)⟩⟩);let j:decide (n=3)=false:=À j
 simp at J;let S:=s1.trans s2;let bQ:∀H',ai H H'->Q (.bl (if decide (n=1)=true then decide (p.m.ak.length<4)&& !lD p.m else match p.m.ak.getLast? with
  |some g=>decide (g.flags.length<8)
  |none=>false)) H':=λH' t=>by
  let q:=k _ t;delta dJ at q;rw[hc,hd,Bool.or_self,ah eC,j,J,Bool.or_self,ah eC] at q;exact q
 let I:=L.same S;refine Ŵ;rw[show V.int 1=V.int ((1:Nat):Int) from rfl,Fs];refine ba Ť Ť
 .apply(_,Á,bc I.pl T.cP T.nZ Åx ⟨p.gl,_,Á,.inl (aa.of I.gl),_,_,Á,Á,_,Á,?_⟩);let e4:decide ((((p.ak.map λg=>V.ref g.a).length:Nat):Int)<4)=decide (p.m.ak.length<4):=by
   rw[show(4:Int)=((4:Nat):Int) from rfl,dec_lt];delta eT.m;simp
  rw[e4];apply ba (λh5=>⟨_,Á,p,Á,I,λH3 s4=>Ģ⟩) (λh5=>?_)
  .let q:=bQ _ (S.trans s4);symm
  .symm
 .apply(_,Á,bc I.pl T.cP T.nZ Åx ⟨dv _,λe5 n5=>?_⟩);let M:=fe (o:=.lst []) S (S.free n5);let G:=L.same M;apply(p.gl,e5,_,Á,Á,aa.of G.gl,aa.of ao,_,Á,?_);rcases qx p.ak with e|⟨gs,g,e⟩
  .rw[e];apply nV ?_;let q:=bQ _ M;rw[ah h1,show p.m.ak=[] by delta eT.m;rw[e];rfl] at q;symm
  .let hg:g∈p.ak:=by rw[e];simp
   let ne:(!(p.ak.map λg=>V.ref g.a).isEmpty)=true:=by rw[e,bZ];simp
   rw[ne];apply lx ⟨_,Á,bc G.pl T.cP T.nZ Åx ⟨_,Á,p.gl,_,_,V.ref g.a,Á,Á,aa.of G.gl,?_,bc ((G.sub hg).ga) T.cG T.wx (wu g) ⟨g.l,_,Á,.inl (aa.of (G.sub hg).fl),_,_,Á,Á,?_⟩⟩⟩
   .rw[e,bZ];exact vR _ _
   .let q:=bQ _ M;let eg:p.m.ak.getLast?=some g.m:=by
     delta eT.m;symm
    rw[ah h1,eg] at q;show Q (V.bl (decide ((((g.flags.map λs=>V.ref s.a).length:Nat):Int)<((8:Nat):Int)))) _;rw[dec_lt,az];let e6:g.m.flags.length=g.flags.length:=by delta cw.m;simp only[az]
    symm
end
def rL(m:gj):Told->gj
 |.side s l=>⟨s,l,m.ak⟩
 |.hoist k=>⟨m.side,m.classes,m.ak++[⟨decide (k%2=1),decide (k/2=1),[]⟩]⟩
 |.shape k=>⟨m.side,m.classes,m.ak.dropLast++(m.ak.getLast?.map λg=>(⟨g.above,g.below,g.flags++[(k,[])]⟩:iO)).toList⟩
 |.row l=>⟨m.side,m.classes,m.ak.dropLast++(m.ak.getLast?.map λg=>(⟨g.above,g.below,g.flags.dropLast++(g.flags.getLast?.map λs=>(s.1,s.2++l)).toList⟩:iO)).toList⟩
structure Rep(C:Cs)(H:Hp)(p:eT):Prop where
 lies:Lies H Ál
 nd:((eO C p).map (·.1)).Nodup
def TY(h:dJ m 1=true):m.ak.length<4:=by
 delta dJ at h;symm
def agl{m:gj}(h:dJ m 2=true):∃g,m.ak.getLast?=some g/\g.flags.length<8:=by
 delta dJ at h;split at h
 .simp at h
 .split at h
  .simp at h
  .split at h
   .rename_i z;exact absurd z Ù
   .split at h
    .rename_i g e;exact(g,e,À h)
    .cases h
def agm{m:gj}(h:dJ m 3=true):∃g s,m.ak.getLast?=some g/\g.flags.getLast?=some s/\s.2.length<16:=by
 delta dJ at h;split at h
 .simp at h
 .split at h
  .simp at h;delta jK at h;split at h
   .rename_i g e;split at h
    .rename_i s j;exact(g,s,e,j,À h)
    .cases h
   .cases h
  .rename_i z h2;exact absurd Ä h2
def Lz{α β:Type}{f:α->β}{l:List α}{y:β}(h:(l.map f).getLast?=some y):∃r x,l=r++[x]/\f x=y:=by
 rcases qx l with e|⟨r,x,e⟩
 .rw[e] at h;cases h
 .apply(r,x,e,?_);rw[e,bZ,aX,lK,AZ,HX] at h;exact aI h
inductive TZ(C:Cs)(vs:au)(H:Hp)(Q:VK)(E':XK):Prop
 |mk (p:eT) (t:Told) (v:V) (H0:Hp) (_:vs=[.ref p.a,.int (t.sort:Nat),v]) (_:Rep C H p) (_:ai H0 H) (_:Lies H0 Ál) (_:zM H0 H t v) (_:(∀l,t=.row l->l.length=4)) (_:dJ p.m t.sort=true) (_:∀H' p',p'.a=p.a->p'.m=rL p.m t->Rep C H' p'->(∀b o,H b=some o->b∉(eO C p).map (·.1)->H' b=some o)->(∀b,b∈(eO C p').map (·.1)->b∈(eO C p).map (·.1)\/H0 b=none)->Q .aL H')
def agn(h:Lies H ns)(j:b∈ns.map (·.1)):∃o,H b=some o:=by
 let(x,m,rfl):=cb.mp j;exact(_,h x m)
def Ca(h:Lies H ns)(j:H b=none):b∉ns.map (·.1):=λz=>by
 let(o,e):=agn h z;symm
def LB(L:Lies H (A++(b,o)::B))(nd:((A++(b,o)::B).map (·.1)).Nodup)(keep:∀c u,H c=some u->c≠b->H2 c=some u)(J:H2 b=some o')(m:Lies H2 N):
  Lies H2 (A++(b,o')::(B++N)):=λx j=>by
 rw[bZ,aX] at nd;let(M,F,G):=PV.mp nd;let(I,O):=kO.mp F;rcases gQ.mp j with j|j
 .exact keep _ _ (L x (AW _ j)) (G x.1 (cb.mpr ⟨x,j,Á⟩) b fG)
 .rcases a0.mp j with rfl|j
  .omega
  .rcases gQ.mp j with j|j
   .exact keep _ _ (L x (uu _ (aP _ j))) λz=>I (by grind)
   .exact m x j
def LC{A B N:List Nd}{b:Addr}{o O:HO}(nd:((A++(b,o)::B).map (·.1)).Nodup)(j:(N.map (·.1)).Nodup)(hd:∀c,c∈N.map (·.1)->c∉(A++(b,o)::B).map (·.1)):((A++(b,O)::(B++N)).map (·.1)).Nodup:=by
 let e:(A++(b,O)::(B++N)).map (·.1)=(A++(b,o)::B).map (·.1)++N.map (·.1):=by simp
 rw[e];exact PV.mpr ⟨nd,j,λx m y F z=>hd y F (by rw[<-z];exact m)⟩
def LD{A B N:List Nd}{b:Addr}{o O:HO}{c:Addr}(h:c∈(A++(b,O)::(B++N)).map (·.1)):c∈(A++(b,o)::B).map (·.1)\/c∈N.map (·.1):=by
 grind
def T3{gs:List cw}{g g':cw}(h:g.a=g'.a):((gs++[g]).map λg=>V.ref g.a)=(gs++[g']).map λg=>V.ref g.a:=by
 symm
def ago{ss:List eN}{s s':eN}(h:s.a=s'.a):((ss++[s]).map λs=>V.ref s.a)=(ss++[s']).map λs=>V.ref s.a:=by
 symm
section
variable{P:Pg}{w:Wd}{K:FR}{mg:MG}{base:Heap}{C:Cs}
def agp:bO ["plate","sort","told"] ["plate","sort","told"] (aZ KI):=cu
def agq(k:Nat):decide (V.int (((k:Nat):Int)%2)=V.int 1)=decide (k%2=1):=by
 grind
def agr(k:Nat):decide (V.int (((k:Nat):Int)/2)=V.int 1)=decide (k/2=1):=by
 grind
def ags{f:Addr}{fd:FD}(F:bu K "put" "put" KI f fd)(T:mJ K C)(c0:Cn mg "SIDE_LINE" Ō)(c1:Cn mg "HOIST_LINE" Ţ)(c2:Cn mg "SHAPE_LINE" (.int 2))(dG:ă "Glimpse" C.G ["above","below","flags"]) (dS:ă "Sighting" C.S ["shape","cells"]):Ì aE 3 f fd ["plate","sort","told"] (TZ C):=by
 refine F.ok agp Â;let(p,t,v,H0,rfl,R,s0,L0,ta,h4,W,k):=h;refine⟨_,aD (dj (cI ir ã (cf c0) (bV _))
   (aB (fk Û (cA zi ç bp Ø) rfl) (aD (fk Û (cA zi ç bp Ø) rfl)))
  (aD (dj (cI ir ã (cf c1) (bV _))
   (aD (pZ (Ü Ĉ (ae (qy dG hr
    (ae (jF ir (eS IL ç bp) bp (bV _)) (ae (jF ir (eS aaK ç bp) bp (bV _)) Äy))) ag))))
  (aD (dj (cI ir ã (cf c2) (bV _))
   (aD (pZ (Ü Ĥ (ae (qy dS hr
    (ae ç Äy)) ag))))
   (aD (pZ (ċ (bg (cA cZ Ĥ (i8 jE bp) Ø) rfl) ŧ)))))))),?_⟩
 let L:=R.lies;cases t with
 |side sd l=>
  let(tt,c,rfl,T4,ht,hc):=ta;refine ϵ;apply(_,Á,tt,_,0,_,Á,Á,bw.of ht,Á,_,Á,p.a,C.P,p.dx,_,Á,L.pl,T.cP,T.Lv,(by show 3<1000;decide),?_);let nta:=Qi ht L.pl Ä;apply(_,Á,tt,_,1,_,Á,Á,bw.of (by rw[aq nta];exact ht),Á,_,Á,p.a,C.P,p.dx,_,Á,ao,T.cP,T.Fm,?_,?_)
  .exact pP (IU _ _ _) (by show 4<1000;decide)
  .let T5:=Ca L0 T4;let zN:p.a∈(eO C p).map (·.1):=by delta eO;simp
   let Ft:c≠p.a:=λz=>T5 É;let nd:=R.nd;let T6:=(kO.mp nd);let nd2:=(kO.mp T6.2);let sub:∀b,b∈((p.gl,HO.lst (p.ak.map λg=>V.ref g.a))::p.ak.flatMap Åy).map (·.1)->b∈(eO C p).map (·.1):=λb hb=>aP _ (aP _ hb);apply k _ {p with cl:=c,side:=sd,classes:=l} Á Á ⟨λx hx=>?_,?_⟩ Ât đ
   .let hx:x∈(p.a,HO.ins C.P p.dx (mG {p with cl:=c,side:=sd,classes:=l}))::(c,HO.lst (iv l))::((p.gl,HO.lst (p.ak.map λg=>V.ref g.a))::p.ak.flatMap Åy):=hx;rcases a0.mp hx with rfl|hx
    .rw[ao];rfl
    .rcases a0.mp hx with rfl|hx
     .rw[aq Ft,aq Ft];omega
     .let j3:x.1≠p.a:=λz=>T6.1 (by grind);rw[aq j3,aq j3];exact L x (aP _ (aP _ hx))
   .apply kO.mpr ⟨λz=>?_,kO.mpr ⟨λz=>T5 (sub c z),nd2.2⟩⟩;grind
   .rw[aq (λz=>nb É),aq (λz=>nb É)];omega
   .rcases a0.mp hb with z|z
    .symm
    .grind
 |hoist n=>
  obtain rfl:v=V.int (n:Nat):=ta;let M:=TY W;refine⟨_,Á,Á,_,Á,ite_no (show ¬V.int ((1:Nat):Int)=V.int 0 by decide) ϵ⟩;apply(_,Á,ū Åx ⟨.inl ⟨Á,_,aa.of L.gl⟩,_,Á,_,_,Á,Á,Å,Á,_,Á,_,_,Á,Á,⟨by decide,by decide⟩,Á,dv _,λl O=>?_⟩);intro x dx hx iW aU;refine⟨x,dx,_,Á,Á,ao,λH2 h2 k2=>ų⟩;let s1:ai H (ϟ â):=aK O;let Z:=ai.made hx iW k2;let Y:=s1.trans Z;let hlx:l≠x:=λz=>by rw[<-z,ao] at hx;cases hx
  let jq:=Z _ _ ao;apply(p.gl,_,_,Á,Á,Y _ _ L.gl,?_,?_)
  .rw[az];delta eT.m at M;simp only[az] at M;exact gi Å
  .let j:eO C p=[(p.a,.ins C.P p.dx (mG p)),(p.cl,.lst ő)]++(p.gl,.lst (p.ak.map λg=>V.ref g.a))::p.ak.flatMap Åy:=rfl;let I:eO C {p with ak:=p.ak++[⟨x,dx,l,decide (n%2=1),decide (n/2=1),[]⟩]}=[(p.a,.ins C.P p.dx (mG p)),(p.cl,.lst ő)]++(p.gl,.lst ((p.ak++[(⟨x,dx,l,decide (n%2=1),decide (n/2=1),[]⟩:cw)]).map λg=>V.ref g.a))::(p.ak.flatMap Åy++[(x,.ins C.G dx (qw ⟨x,dx,l,decide (n%2=1),decide (n/2=1),[]⟩)),(l,.lst [])]):=by
    show(p.a,HO.ins C.P p.dx (mG p))::(p.cl,HO.lst ő)::(p.gl,_)::(p.ak++[_]).flatMap Åy=_;rw[A0];rfl
   let LF:=Ca L Æo;let LG:=Ca L O;let Fu:p.gl∈(eO C p).map (·.1):=by delta eO;simp
   let LH:x≠p.gl:=λz=>LF É;let zO:l≠p.gl:=λz=>LG É;apply k _ {p with ak:=p.ak++[⟨x,dx,l,decide (n%2=1),decide (n/2=1),[]⟩]} Á ?_ Áp Ât đ
   .delta eT.m rL;rw[bZ];rfl
   .rw[I];apply LB (H:=H) (by assumption) (by rw[<-j];exact R.nd) (λc u e hc=>by rw[aq hc];exact Y _ _ e) ?_ Ào
    .rw[ao,bZ];rfl
    .rcases a0.mp hy with rfl|hy;rotate_left;obtain rfl:=nu.mp hy;rotate_left
     .rw[aq LH,h2];apply cJ (λz=>some (HO.ins C.G dx z)) ?_;rw[agq,agr];rfl
     .rw[aq zO];omega
   .rw[I];apply LC (by rw[<-j];exact R.nd) (by grind) (λc hc=>?_);grind
   .rw[aq (λz=>nb É)];exact Y _ _ e
   .rw[I] at hb;rcases LD hb with hb|hb
    .exact .inl hb
    .simp at hb;rcases hb with rfl|rfl
     .exact .inr (s0.free Æo)
     .exact .inr (s0.free O)
 |shape n=>
  obtain rfl:v=V.int (n:Nat):=ta;let(gm,eg,M):=agl W;let(gs,g,U,rfl):=Lz eg;let J:g∈p.ak:=by rw[U];simp
  refine⟨_,Á,Á,_,Á,ite_no (show ¬V.int ((2:Nat):Int)=V.int 0 by decide) ⟨_,Á,Á,_,Á,ite_no (show ¬V.int ((2:Nat):Int)=V.int 1 by decide) ϵ⟩⟩;apply(_,Á,ū Åx ⟨_,Á,p.gl,_,_,V.ref g.a,Á,Á,aa.of L.gl,?_,bc ((L.sub J).ga) T.cG T.wx (wu g) ⟨.inl ⟨Á,_,aa.of (L.sub J).fl⟩,_,Á,dv _,λl O=>?_⟩⟩)
  .rw[U,bZ];exact vR _ _
  intro x dx hx iW aU;refine⟨x,dx,_,Á,Á,ao,λH2 h2 k2=>ų⟩;let s1:ai H (ϟ â):=aK O;let Z:=ai.made hx iW k2;let Y:=s1.trans Z;let hlx:l≠x:=λz=>by rw[<-z,ao] at hx;cases hx
  let jq:=Z _ _ ao;apply(g.l,_,_,Á,Á,Y _ _ (L.sub J).fl,?_,?_)
  .rw[az];delta cw.m at M;simp only[az] at M;exact gi Å
  .let j:eO C p=((p.a,.ins C.P p.dx (mG p))::(p.cl,.lst ő)::(p.gl,.lst (p.ak.map λg=>V.ref g.a))::(gs.flatMap Åy++[(g.a,.ins C.G g.dx (qw g))]))++(g.l,.lst (g.flags.map λs=>V.ref s.a))::g.flags.flatMap (iy C):=by
    delta eO;rw[show p.ak.flatMap Åy=gs.flatMap Åy++gB C g by simp_all];delta gB;simp
   let I:eO C {p with ak:=gs++[{g with flags:=g.flags++[⟨x,dx,l,n,[]⟩]}]}=((p.a,.ins C.P p.dx (mG p))::(p.cl,.lst ő)::(p.gl,.lst (p.ak.map λg=>V.ref g.a))::(gs.flatMap Åy++[(g.a,.ins C.G g.dx (qw g))]))++(g.l,.lst ((g.flags++[(⟨x,dx,l,n,[]⟩:eN)]).map λs=>V.ref s.a))::(g.flags.flatMap (iy C)++[(x,.ins C.S dx (wt ⟨x,dx,l,n,[]⟩)),(l,.lst [])]):=by
    delta eO;rw[A0,U,T3 (gs:=gs) (g:=g) (g':={g with flags:=g.flags++[⟨x,dx,l,n,[]⟩]}) rfl];simp[gB,A0,mG,qw,iy,iv]
   let LF:=Ca L Æo;let LG:=Ca L O;let Fu:g.l∈(eO C p).map (·.1):=by rw[j];simp
   let LH:x≠g.l:=λz=>LF É;let zO:l≠g.l:=λz=>LG É;apply k _ {p with ak:=gs++[{g with flags:=g.flags++[⟨x,dx,l,n,[]⟩]}]} Á ?_ Áp Ât đ
   .delta eT.m rL;simp[cw.m,eN.m,U,AZ]
   .rw[I];apply LB (H:=H) (by rw[<-j];exact L) (by rw[<-j];exact R.nd) (λc u e hc=>by rw[aq hc];exact Y _ _ e) ?_ Ào
    .rw[ao,bZ];rfl
    .rcases a0.mp hy with rfl|hy;rotate_left;obtain rfl:=nu.mp hy;rotate_left
     .rw[aq LH,h2];rfl
     .rw[aq zO];omega
   .rw[I];apply LC (by rw[<-j];exact R.nd) (by grind) (λc hc=>?_);simp at hc;rw[<-j];rcases hc with rfl|rfl
    .omega
    .omega
   .rw[aq (λz=>nb (by rw[z];exact Fu))];exact Y _ _ e
   .rw[I] at hb;rcases LD hb with hb|hb
    .exact .inl (by rw[j];exact hb)
    .simp at hb;rcases hb with rfl|rfl
     .exact .inr (s0.free Æo)
     .exact .inr (s0.free O)
 |row l=>
  let(c,rfl,T4,hc):=ta;let(gm,sm,eg,es,M):=agm W;let(gs,g,U,rfl):=Lz (show(p.ak.map cw.m).getLast?=some gm from eg);let(ss,sg,Fv,rfl):=Lz (show(g.flags.map eN.m).getLast?=some sm from es);let J:g∈p.ak:=by rw[U];simp
  let hs:sg∈g.flags:=by rw[Fv];simp
  let wy:=h4 l rfl;apply(_,Á,Á,_,Á,ite_no (show ¬V.int ((3:Nat):Int)=V.int 0 by decide) ⟨_,Á,Á,_,Á,ite_no (show ¬V.int ((3:Nat):Int)=V.int 1 by decide) ⟨_,Á,Á,_,Á,ite_no (show ¬V.int ((3:Nat):Int)=V.int 2 by decide) ?_⟩⟩);apply(_,Á,ū Åx ⟨_,Á,p.gl,_,_,V.ref g.a,Á,Á,aa.of L.gl,?_,bc ((L.sub J).ga) T.cG T.wx (wu g) ⟨_,Á,g.l,_,_,V.ref sg.a,Á,Á,aa.of (L.sub J).fl,?_,bc (((L.sub J).zJ hs).sa) T.cS T.Fl (Fk sg) ⟨.inl ⟨Á,_,aa.of ((L.sub J).zJ hs).sl⟩,_,Á,sg.l,c,_,_,Á,Á,((L.sub J).zJ hs).sl,hc,?_,?_⟩⟩⟩)
  .rw[U,bZ];exact vR _ _
  .rw[Fv,bZ];exact vR _ _
  .let:sg.cells.length<16:=M;rw[d7,d7,wy];exact pN (gi Å)
  .let j:eO C p=((p.a,.ins C.P p.dx (mG p))::(p.cl,.lst ő)::(p.gl,.lst (p.ak.map λg=>V.ref g.a))::(gs.flatMap Åy++((g.a,.ins C.G g.dx (qw g))::(g.l,.lst (g.flags.map λs=>V.ref s.a))::(ss.flatMap (iy C)++[(sg.a,.ins C.S sg.dx (wt sg))]))))++(sg.l,.lst (iv sg.cells))::[]:=by
    delta eO;rw[show p.ak.flatMap Åy=gs.flatMap Åy++gB C g by simp_all];delta gB;rw[show g.flags.flatMap (iy C)=ss.flatMap (iy C)++iy C sg by simp_all];simp[iy]
   let I:eO C {p with ak:=gs++[{g with flags:=ss++[{sg with cells:=sg.cells++l}]}]}=((p.a,.ins C.P p.dx (mG p))::(p.cl,.lst ő)::(p.gl,.lst (p.ak.map λg=>V.ref g.a))::(gs.flatMap Åy++((g.a,.ins C.G g.dx (qw g))::(g.l,.lst (g.flags.map λs=>V.ref s.a))::(ss.flatMap (iy C)++[(sg.a,.ins C.S sg.dx (wt sg))]))))++(sg.l,.lst (iv (sg.cells++l)))::([]++[]):=by
    delta eO;dsimp only;rw[A0,U,T3 (gs:=gs) (g:=g) (g':={g with flags:=ss++[{sg with cells:=sg.cells++l}]}) rfl,Fv,ago (ss:=ss) (s:=sg) (s':={sg with cells:=sg.cells++l}) rfl];simp[gB,A0,mG,qw,iy,wt]
   let Fu:sg.l∈(eO C p).map (·.1):=by rw[j];simp
   apply k _ {p with ak:=gs++[{g with flags:=ss++[{sg with cells:=sg.cells++l}]}]} Á ?_ Áp Ât đ
   .delta eT.m rL;dsimp only;simp[cw.m,eN.m,U,Fv,AZ]
   .rw[I];apply LB (H:=H) (by rw[<-j];exact L) (by rw[<-j];exact R.nd) (λc u e hc=>by rw[aq hc];exact e) ?_ (λy hy=>absurd hy Ä);rw[ao];simp
   .rw[I];exact LC (by rw[<-j];exact R.nd) Ä Ä
   .rw[aq (λz=>nb (by rw[z];exact Fu))];omega
   .rw[I] at hb;rcases LD hb with hb|hb
    .exact .inl (by rw[j];exact hb)
    .exact absurd hb Ä
end
def LJ(k l:Nat):List (Str×V):=[("kind",.int (k:Nat)),("line",.int (l:Nat))]
structure Fw(K:FR)(mg:MG)(C N:Addr):Prop where
 c:XC K C N
 agw:EI K N "kind"
 agx:EI K N "line"
 mC:mg "NoPlate"=some ā
 keep:PySem.W.keepIn K ā=true
inductive LK(C:Addr)(vs:au)(H:Hp)(Q:VK)(E':XK):Prop
 |mk (x:Addr) (k l:Nat) (_:vs=[.ref x,.int (k:Nat),.int (l:Nat)]) (_:H x=some Ŕ) (_:∀H' d,H' x=some (exc C (some d) .none x)->d≠x->H' d=some (uT d (LJ k l))->(∀b o,H b=some o->b≠x->H' b=some o)->Q .aL H')
def T7(P:Pg)(w:Wd)(K:FR)(mg:MG)(base:Heap)(C N:Addr):Prop:=
 ∃f fd,Fw K mg C N/\PySem.W.nsIn K N "__init__"=some Âd/\PySem.W.isFn K Ă=true/\Ì aE 1 f fd ["self","kind","line"] (LK C)/\L2.Binds K fd ["self","kind","line"] []
section
variable{P:Pg}{w:Wd}{K:FR}{mg:MG}{base:Heap}{C:Cs}{CN N:Addr}
def agy:typeOf (.type "Exception")=pure (.type "type"):=by rfl
def agz:bO ["self","kind","line"] ["self","kind","line"] (aZ Ky):=cu
def agA(F:bu K "__init__" "NoPlate.__init__" Ky f fd)(T:Fw K mg CN N)(I:mg "Exception"=none)(G:PySem.W.findCls K (.type "Exception") (.type "type") "__init__"=some (.val (.builtin "Exception.__init__"))):
  a9 P w K mg base aE 1 f fd ["self","kind","line"] (LK CN):=by
 refine F.ok agz Â;let(x,n,l,rfl,m,k):=h;apply(_,aB (pZ (adw Ô I G ó agy Ê Ê)) (aB (adz Û ã Á) (aD (adB Û ç Á))),?_);apply(_,Á,x,CN,N,_,_,Á,m,T.c,_,Á,_,Á,x,CN,N,_,Á,m,T.c,T.agw,λd hd aU=>?_);apply(_,Á,_,Á,x,CN,N,d,_,_,Á,(by rw[aq År];exact ao),aU,ao,(by show 1<1000;decide),T.c,T.agx,?_);apply k _ d (by rw[aq År,aq År];exact ao) aU ?_ λb o e z=>?_
 .rw[ao];rfl
 .let j:=eQ e hd;rw[aq j,aq j,aq z];exact e
def mQ:Nat->gj->c7->Except (Nat×Nat) gj
 |_,m,[]=>.ok m
 |i,m,w::r=>match j0 w with
  |none=>.error (1,i)
  |some t=>if dJ m t.sort=true then mQ (i+1) (rL m t) r else .error (2,i)
def g7(j:LI):Except (Nat×Nat) gj:=match mQ 0 ⟨0,[],[]⟩ (JM.aJ 10 j).dropLast with
 |.error e=>.error e
 |.ok m=>if j=[]\/(JM.aJ 10 j).getLastD []≠[] then .error (1,(JM.aJ 10 j).dropLast.length) else if qA m=true then .ok m else .error (2,(JM.aJ 10 j).dropLast.length)
inductive T9(K:FR)(C:Cs)(CN:Addr)(vs:au)(H:Hp)(Q:VK)(E:XK):Prop
 |mk (ap:Addr) (bG:LI) (_:vs=[.ref ap]) (_:ä ap (iv bG)) (_:bG.length<=66000) (_:(∀m,g7 bG=.ok m->∀H' p,ai H H'->Lies H' Ál->p.m=m->Q Ãd H')) (_:∀e,g7 bG=.error e->∀H' d,ai H H'->H' d=some (uT d (LJ e.1 e.2))->E (.ref CN) (some d) H')
def Ua{w l:LI}(h:jZ w=some l):l.length=4:=by
 delta jZ at h;split at h
 .rename_i e;delta jJ at h;grind
 .cases h
def agB{w l:LI}(h:j0 w=some (.row l)):l.length=4:=by
 delta j0 at h;split at h
 .cases h
 .split at h
  .symm
  .split at h
   .symm
   .cases e:jZ w with
    |none=>symm
    |some j=>
     rw[e] at h;let z:=aI h;injection z with z;subst z;exact Ua e
def drop_cons{α:Type}{l:List α}{i:Nat}{x:α}(h:l[i]? =some x):l.drop i=x::l.drop (i+1):=by
 let(j,e):=bH.mp h;rw[List.drop_eq_getElem_cons j,e]
theorem eG.get{H:Hp}:∀{j:LA}{L:c7}{i:Nat}{q:Addr},eG H j L->j[i]? =some q->∃l,L[i]? =some l/\H q=some ŋ:=by
 intro j L i q m;induction m generalizing i with
 |nil=>intro h;simp at h
 |cons r t I=>
  intro h;cases i with
  |zero=>
   let e:=aI h;subst e;exact(_,Á,r)
  |succ i=>exact I h
def zP:bO ["text","lines","rest","plate","number","line","told"] ["text"] (aZ Kz):=cu
inductive RpI(C:Cs)(ap pl qr x:Addr)(Hb:Hp)(L:c7)(i:Nat)(σ:L2.St)(H':Hp):Prop
 |mk (p:eT) (v4 v5 v6:Option V) (_:σ=[some Èy,some (.ref pl),some (.ref qr),some š,v4,v5,v6]) (_:ai Hb H') (_:Rep C H' p) (_:p.a=x) (_:(∀b,b∈(eO C p).map (·.1)->Hb b=none)) (_:mQ 0 ⟨0,[],[]⟩ L=mQ i p.m (L.drop i))
def agD{f:Addr}{fd:FD}(F:bu K "read_plate" "read_plate" Kz f fd)(T:mJ K C)(tL:mg "len"=none)(tE:mg "enumerate"=none)(cL:Cn mg "LINE_END" (.int 10))(cN:Cn mg "NO_SUCH_LINE" Ţ)(cW:Cn mg "WRONG_PLACE" (.int 2))(dC:Ç 1 "cut" ["text","mark"] (wq K)) (dP:ă "Plate" C.P ["side","classes","glimpses"]) (dN:T7 P w K mg base CN N) (dR:Ç 5 "read_line" ["line"] (Tz K)) (dM:Ç 3 "may_stand" ["plate","sort"] (TX C))(dU:Ç 3 "put" ["plate","sort","told"] (TZ C)) (dW:Ç 3 "has_whole_hoists" ["plate"] (qB C qA)):Ì Ď 6 f fd ["text"] (T9 K C CN):=by
 let(fN,Ub,TN,iN,Fx,GN,bN):=dN;refine F.qk zP Â;let(ap,j,rfl,hT,hl,k1,k2):=h;let sY:dy 2 _:=hr.mono Ù;refine⟨_,aB (cq 1 zP.nd (bx (hr:=hr) dC (ae Û (ae (cf cL) ag))))
  (aB (cq 2 zP.nd (Q5 PySem.F.plainAttrs_list PySem.F.slot_list_pop PySem.F.type_list_pop Q6 ã))
  (aB (cq 3 zP.nd (qy dP hr (ae bp (ae Ī Äy))))
  (aB (mi (JD wb) rfl (lu Ô tE Ř) (iL 4 5 zP.nd)
   (aB (cq 6 zP.nd (bx (hr:=hr) dR Ũ))
   (aB (dj (nI (qX Ãu)) (aD (jG hr.hd TN.c (ĳ bN .nil sS (ae (cf cN) Ϩ)))) dY)
   (aB (dj (pY (jD (bx (hr:=hr) dM (ae ø (ae Åz ag))))) (aD (jG hr.hd TN.c (ĳ bN .nil sS (ae (cf cW) Ϩ)))) dY)
   (aD (pZ (bx (hr:=hr) dU (ae ø (ae Åz (ae Åz ag))))))))))
  (aB (dj (PW.pt (pw_or (cI ϰ Û Ī (bV _)) (pw_or1 (cI Áa ç Ī (bV _)))))
   (aD (jG hr.hd TN.c (ĳ bN .nil sS (ae (cf cN) (ae ý ag))))) dY)
  (aB (dj (pY (jD (bx (hr:=hr) dW ĵ)))
   (aD (jG hr.hd TN.c (ĳ bN .nil sS (ae (cf cW) (ae ý ag))))) dY)
  (aD (a7 ø))))))),?_⟩
 apply(_,Á,ap,10,j,Á,hT,ia hl Ù,λH1 pl qs hN hp nd np hf=>?_);let(gK,qr,rfl,u0,Cb):=eG.last hp (JM.lZ 10 j);let s1:=hN.1;apply(_,Á,.inl ⟨Á,_,aa.of hN.2.2⟩,pl,_,V.ref qr,Á,Á,hN.2.2,?_,?_)
 .simp
 let eL:(((gK++[qr]).map V.ref).dropLast)=gK.map V.ref:=by rw[bZ];simp
 rw[eL];let LL:=λz=>np (AW _ z);let LM:qr≠pl:=λz=>np É;generalize hL:(JM.aJ 10 j).dropLast=L at u0;generalize hRest:(JM.aJ 10 j).getLastD []=I at Cb;let sb:ai H Ő:=fe s1 hN.2.1;let zQ:eG Ő gK L:=eG.upd u0 LL;let rb:(Ő) qr=some (.lst (iv I)):=by rw[aq LM];exact Cb
 let lb:(Ő) pl=some þ:=ao;generalize Ő=Hb at sb zQ rb lb;let aq8:L.length<=66000:=by
  rw[<-hL,YV];let:=Fh 10 j;omega
 let Uc:=zQ.len;let agE:∀w∈L,w.length<=100000:=λw G=>by
  let:=x9 10 j w (by rw[<-hL] at G;exact A1 _ G);omega
 let J:g7 j=match mQ 0 ⟨0,[],[]⟩ L with
   |.error e=>.error e
   |.ok m=>if j=[]\/I≠[] then .error (1,L.length) else if qA m=true then .ok m else .error (2,L.length):=by
  delta g7;rw[hL,hRest]
 let Cc:∀(kk ll:Nat)(Hx:Hp),g7 j=.error (kk,ll)->ai H Hx->([V.int (kk:Nat),V.int (ll:Nat)]:au).length<=sizeLine/\∀x,Hx x=none->
   LK CN (V.ref x::([V.int (kk:Nat),V.int (ll:Nat)]++[])) (upd Hx x (exc CN none .none x)) (λv H2=>v=.aL/\∃a od,V.ref x=V.ref a/\H2 a=some (exc CN od .none a)/\(∀d,od=some d->d≠a)/\E (.ref CN) od H2) E0:=λkk ll Hx e S=>
  ⟨(by show 2<=sizeLine;decide),λx O=>⟨x,kk,ll,rfl,ao,λH5 d h1 aU h2 kp=>⟨rfl,x,some d,rfl,h1,λd' e'=>(by cases e';exact aU),k2 _ e H5 d (λb o eb=>kp b o (by rw[aq (eQ (S _ _ eb) O)];exact S _ _ eb) (eQ (S _ _ eb) O)) h2⟩⟩⟩
 apply(dv _,λU fc=>⟨dv _,λY jq=>?_⟩);intro x dx O iW Ud;refine⟨x,dx,_,Á,Á,ao,λH4 h4 k4=>ų⟩;let t1:ai Hb (upd Hb U â):=aK fc;let t2:ai Hb (upd (upd Hb U â) Y â):=fe t1 (t1.free jq);let t4:=ai.made O iW k4;let t5:=t2.trans t4;let Ue:U≠Y:=λz=>by rw[<-z,ao] at jq;cases jq
 let nx2:Y≠x:=λz=>by rw[<-z,ao] at O;cases O
 let nx1:U≠x:=λz=>by rw[<-z,aq Ue,ao] at O;cases O
 let R0:Rep C H4 ⟨x,dx,U,Y,0,[],[]⟩:=by
  apply(λy hy=>?_,?_)
  .let hy:=hy;rcases a0.mp hy with rfl|hy
   .exact h4
   .rcases a0.mp hy with rfl|hy
    .exact t4 _ _ (by rw[aq Ue];exact ao)
    .obtain rfl:=nu.mp hy;exact t4 _ _ ao
  .show([x,U,Y]:LA).Nodup;grind
 let F0:∀b,b∈(eO C ⟨x,dx,U,Y,0,[],[]⟩).map (·.1)->Hb b=none:=λb hb=>by
  let hb:b=x\/b=U\/b=Y:=by simpa [eO] using hb
  rcases hb with rfl|rfl|rfl
  .exact t2.free O
  .omega
  .exact t1.free jq
 refine⟨_,Á,pl,_,Á,aa.of (t5 _ _ lb),adM (K:=K) (a:=pl) (xs:=gK.map V.ref)
  (RpI C ap pl qr x Hb L)
  ⟨⟨x,dx,U,Y,0,[],[]⟩,none,none,none,rfl,t5,R0,rfl,F0,rfl⟩ (λi σ H' _ h=>(by let(_,_,_,_,_,S):=h;exact aa.of (S _ _ lb))) ?_ ?_⟩
 .rintro i y TT σ H' hi ⟨p,v4,v5,v6,rfl,S,R,zN,qf,W⟩ wa;obtain⟨q,hq,rfl⟩:∃q,gK[i]? =some q/\y=V.ref q:=by
   grind
  let(wd,G,hqw):=eG.get zQ hq;let sT:=fe (o:=.tup [.int (i:Nat),.ref q]) S (S.free wa);let Ug:ai H' (upd H' TT (.tup [.int (i:Nat),.ref q])):=aK wa;rw[drop_cons G] at W;apply(TT,_,Á,bw.of ao,Á,_,_,Á,_,_,Á,Á,_,Á,q,wd,Á,aa.of (sT _ _ hqw),agE wd (bI G),λH3 v Z Fy=>?_);let Uh:=sT.trans Z;let s3H:=sb.trans Uh;cases zR:j0 wd with
  |none=>
   rw[zR] at Fy;obtain rfl:v=.aL:=Fy;let M:g7 j=.error (1,i):=by
    rw[J,W];delta mQ;symm
   exact(_,Á,_,Á,ite_yes Á ⟨_,Á,Cc 1 i H3 M s3H⟩)
  |some t=>
   rw[zR] at Fy;let(q2,y2,rfl,x4,LO,ta):=Fy;let L3:=R.lies.same (Ug.trans Z);refine⟨_,Á,_,Á,ite_no Ä ⟨_,Á,_,Á,q2,_,0,_,Á,Á,bw.of LO,Á,p,t.sort,É,L3,λH5 s5=>Ģ⟩⟩;let Ui:=Uh.trans s5;let s5H:=sb.trans Ui;apply ba (λhm=>?_) (λhm=>?_)
   .simp at hm;let M:g7 j=.error (2,i):=by
     rw[J,W];delta mQ;symm
    exact(_,Á,Cc 2 i H5 M s5H)
   .simp at hm;let R5:Rep C H5 p:=⟨L3.same s5,R.nd⟩;refine⟨_,Á,_,Á,q2,_,0,_,Á,Á,bw.of (s5 _ _ LO),Á,_,Á,q2,_,1,_,Á,Á,bw.of (s5 _ _ LO),Á,p,t,y2,upd H' TT (.tup [.int (i:Nat),.ref q]),(by rw[zN];rfl),R5,Z.trans s5,R.lies.same Ug,ta.same s5,
     λl e=>agB (by rw[zR,e]),hm,λH6 p' e1 e2 R6 kf kn=>?_⟩
    apply(p',_,_,_,Á,λb o eb=>kf b o (Ui _ _ eb) (λz=>by grind),R6,e1.trans zN,λb hb=>?_,?_)
    .rcases kn b hb with z|z
     .grind
     .exact sT.free z
    .rw[W,e2];rw[show mQ i p.m (wd::L.drop (i+1))=(match j0 wd with
      |none=>.error (1,i)
      |some t=>if dJ p.m t.sort=true then mQ (i+1) (rL p.m t) (L.drop (i+1)) else .error (2,i)) from rfl,zR]
     symm
 .rintro σ H' ⟨p,v4,v5,v6,rfl,S,R,zN,qf,W⟩;let sH:=sb.trans S;rw[az,Uc,List.drop_length] at W;let W:mQ 0 ⟨0,[],[]⟩ L=.ok p.m:=W;rw[W] at J;dsimp only at J;let LP:(((gK.map V.ref).length:Nat):Int)=((L.length:Nat):Int):=by rw[az,Uc]
  apply(_,Á,dv _,λe1 n1=>?_);let Fz:=fe (o:=.lst []) sH (sH.free n1);let LQ:=fe (o:=.lst []) S (S.free n1);refine⟨ap,e1,_,Á,Á,Fz.seq hT,aa.of ao,_,Á,ba Î Î⟩
  .let hc:j=[]:=by
    symm
   let M:g7 j=.error (1,L.length):=by rw[J,af (.inl hc)]
   apply(_,Á,pl,_,Á,.inl (aa.of (LQ _ _ lb)),?_);rw[LP];exact Cc 1 L.length _ M Fz
  .let hc:¬j=[]:=λz=>hc É;apply(_,Á,dv _,λe2 n2=>?_);let LR:=fe (o:=.lst []) Fz (Fz.free n2);let LU:=fe (o:=.lst []) LQ (LQ.free n2);refine⟨qr,e2,_,Á,Á,aa.of (LU _ _ rb),aa.of ao,_,Á,ba ě ě⟩
   .let hd:I≠[]:=λz=>by rw[z] at hd;exact absurd hd Ù
    let M:g7 j=.error (1,L.length):=by rw[J,af (.inr hd)]
    apply(_,Á,pl,_,Á,.inl (aa.of (LU _ _ lb)),?_);rw[LP];exact Cc 1 L.length _ M LR
   .let hd:I=[]:=by
     symm
    let Bu:¬(j=[]\/I≠[]):=λz=>z.elim hc (λz=>z hd);rw[ah Bu] at J;let Lx:Lies _ Ál:=(R.lies.same (aK (o:=.lst []) n1)).same (aK (o:=.lst []) n2);refine⟨_,Á,p,É,Lx,λH3 Z=>Ģ⟩;apply ba (λG=>?_) (λG=>?_)
    .simp at G;let M:g7 j=.error (2,L.length):=by rw[J,G];rfl
     apply(_,Á,pl,_,Á,.inl (aa.of (Z _ _ (LU _ _ lb))),?_);rw[LP];exact Cc 2 L.length _ M (LR.trans Z)
    .simp at G;rw[af G] at J;refine Ģ;let q:=k1 p.m J H3 p (LR.trans Z) (Lx.same Z) rfl;symm
end
def zS:Str:="ABCDEFGHIJKLMNOPQRSTUVWXYZ0123456789"
def iP(part:LI):Bool:=decide (1<=part.length)&&(decide (part.length<=8)&&part.all λb=>(codes zS).contains b)
inductive LW(K:FR)(vs:au)(H:Hp)(Q:VK)(E':XK):Prop
 |mk (ap:Addr) (part:LI) (_:vs=[.ref ap]) (_:ä ap Ãh) (_:part.length<=100000) (_:∀H',ai H H'->Q (.bl (iP part)) H')
section
variable{P:Pg}{w:Wd}{K:FR}{mg:MG}{base:Heap}
def agI:bO ["part"] ["part"] (aZ Kk):=cu
def agJ(F:bu K "is_name" "is_name" Kk f fd)(tL:mg "len"=none)(G:Cn mg "LONGEST_NAME" (.int 8))(I:Cn mg "NAME_SIGNS" (.str zS))(J:Ç 2 "places_in" ["signs","part"] (Fj K)):Ì aE 3 f fd ["part"] (LW K):=by
 refine F.ok agI Â;let(j,part,rfl,m,U,k):=h;refine⟨_,aD (a7 (uG (QG xF xF bp ć (cf G))
  (sI (Qo (IA (bx (hr:=hr) J (ae (cf I) ó))))))),?_⟩
 let M:decide ((1:Int)<=(((iv part).length:Nat):Int))=decide (1<=part.length):=by
  grind
 let O:decide ((((iv part).length:Nat):Int)<=8)=decide (part.length<=8):=by
  grind
 let q:=k;delta iP at q;apply(_,Á,j,_,Á,.inl m,_,_,Á,Á,_,Á,?_);rw[M];refine ba Î Î
 .apply(_,_,Á,Á,_,Á,?_);rw[O];refine ba ě ě
  .rw[hc,hd,ma,ma] at q;apply(_,Á,zS,j,part,Á,by decide,m,U,λz H' W=>?_,λl z H' p S=>?_)
   .let q:=q _ W;delta jJ at z;grind
   .let q:=q _ S.1;delta jJ at z;grind
  .let hd:decide (part.length<=8)=false:=by simpa using hd
   rw[hd,lI,yQ] at q;exact q _ Ž
 .let hc:decide (1<=part.length)=false:=by simpa using hc
  rw[hc,lI] at q;exact(_,Á,q _ Ž)
def fq(t:LI)(line:LI):Option LI:=match JM.aJ 32 line with
 |[a,b]=>if a=t/\iP b=true then some b else none
 |_=>none
inductive LX(K:FR)(vs:au)(H:Hp)(Q:VK)(E':XK):Prop
 |mk (x:Str) (ap:Addr) (line:LI) (_:vs=[.str x,.ref ap]) (_:x.cps.size<=100000) (_:ä ap Æe) (_:line.length<=100000) (_:∀H' v,ai H H'->LstAt H H' (fq ţ line) v->Q v H')
theorem agK(h:l.length=2):∃a b,l=[a,b]:=by
 match l,h with
 |[a,b],_=>exact(a,b,Á)
def Uj:bO ["title","line","words"] ["title","line"] (aZ Kl):=cu
def agL(F:bu K "name_behind" "name_behind" Kl f fd)(tL:mg "len"=none)(cB:Cn mg "BLANK" Åe)(dC:Ç 1 "cut" ["text","mark"] (wq K)) (dS:Ç 1 "spelled" ["written"] B4) (dN:Ç 3 "is_name" ["part"] (LW K)):
  a9 P w K mg base aE 4 f fd ["title","line"] (LX K):=by
 refine F.ok Uj Â;let(x,ap,line,rfl,hx,hP,W,k):=h;let uY:dy 1 _:=hr.mono Ù;refine⟨_,aB (cq 2 Uj.nd (bx (hr:=uY) dC (ae ã ž)))
  (aB (dj (PW.pt (pw_or (cI vP ü bp (bV _))
    (pw_or (cI (So hr.units) Àr (bx (hr:=uY) dS ó) (bV _))
    (pw_or1 (pY (jD (bx (hr:=hr) dN (ae Àr ag)))))))) ſ dY)
  (aD (a7 Àr))),?_⟩
 apply(_,Á,ap,32,line,Á,hP,W,λH1 p M J j nd np hf=>?_);let cO:((M.map V.ref).length:Int)=((JM.aJ 32 line).length:Nat):=by rw[az,j.len]
 let Z:=J.1;refine⟨_,Á,p,_,Á,.inl (aa.of J.2.2),Á,_,Á,ba Î Î⟩
 .apply k H1 .aL Z ?_;let:fq ţ line=none:=by
   delta fq;grind
  rw[this];rfl
 .let h2:(JM.aJ 32 line).length=2:=by
   grind
  let(a,b,S):=agK h2;rw[S] at j;let en:fq ţ line=if a=codes x/\iP b=true then some b else none:=by delta fq;rw[S]
  let Lw:∀w∈[a,b],w.length<=100000:=λw hw=>ia (x9 32 line w É) W;obtain⟨Y,I,rfl⟩:∃x y,M=[x,y]:=by
   let:=j.len
   match M,this with
   |[x,y],_=>exact(x,y,Á)
  cases j with
  |cons ha j=>
   cases j with
   |cons U j=>
    apply(_,Á,p,_,0,V.ref Y,Á,Á,aa.of J.2.2,Á,_,Á,x,Á,hx,λH2 p2 m=>?_);let s2:=Z.trans m.1;refine⟨Y,p2,a,codes x,Á,Á,aa.of (m.1 _ _ ha),aa.of m.2.2,_,Á,ba ě ě⟩
    .apply k H2 .aL s2 ?_;simp at hd;rw[en,ah (λz=>hd z.1)];rfl
    .simp at hd;refine⟨_,Á,p,_,1,V.ref I,Á,Á,aa.of (m.1 _ _ J.2.2),Á,I,b,Á,aa.of (m.1 _ _ U),Lw b Ä,λO s3=>Ģ⟩;apply ba (λG=>?_) (λG=>?_)
     .let G:¬iP b=true:=by simpa using G
      apply k O .aL į ?_;rw[en,ah (λz=>G z.2)];rfl
     .simp at G;apply(_,Á,p,_,1,V.ref I,Á,Á,aa.of (s3 _ _ (m.1 _ _ J.2.2)),Á,?_);apply k O (.ref I) į ?_;rw[en,af ⟨hd,G⟩];exact(I,Á,hf I Ä,s3 _ _ (m.1 _ _ U))
def jL(j:LI):Option c7:=if (JM.aJ 10 j).getLastD []=[] then some (JM.aJ 10 j).dropLast else none
def agM(H H':Hp):Option c7->V->Prop
 |none,v=>v=.aL
 |some L,v=>∃p qs,v=.ref p/\H p=none/\H' p=some Ē/\eG H' qs L/\(∀q∈qs,H q=none)
inductive LY(K:FR)(vs:au)(H:Hp)(Q:VK)(E':XK):Prop
 |mk (ap:Addr) (bG:LI) (_:vs=[.ref ap]) (_:ä ap (iv bG)) (_:bG.length<=100000) (_:∀H' v,ai H H'->agM H H' (jL bG) v->Q v H')
def LZ:bO ["text","lines","rest"] ["text"] (aZ Kg):=cu
def agN(F:bu K "whole_lines" "whole_lines" Kg f fd)(cL:Cn mg "LINE_END" (.int 10))(dC:Ç 1 "cut" ["text","mark"] (wq K)):
  a9 P w K mg base aE 2 f fd ["text"] (LY K):=by
 refine F.ok LZ Â;let(ap,j,rfl,hP,hl,k):=h;refine⟨_,aB (cq 1 LZ.nd (bx (hr:=hr) dC (ae Û (ae (cf cL) ag))))
  (aB (cq 2 LZ.nd (Q5 PySem.F.plainAttrs_list PySem.F.slot_list_pop PySem.F.type_list_pop Q6 ã))
  (aD (a7 (sJ (cI ϰ ç Ī (bV _)) ã qW)))),?_⟩
 apply(_,Á,ap,10,j,Á,hP,hl,λH1 pl qs m hp nd W hf=>?_);let(gK,G,rfl,u0,Cb):=eG.last hp (JM.lZ 10 j);let s1:=m.1;apply(_,Á,.inl ⟨Á,_,aa.of m.2.2⟩,pl,_,V.ref G,Á,Á,m.2.2,?_,?_)
 .simp
 let eL:(((gK++[G]).map V.ref).dropLast)=gK.map V.ref:=by rw[bZ];simp
 rw[eL];let LL:=λz=>W (AW _ z);let LM:G≠pl:=λz=>W É;let S:ai H Ő:=fe s1 m.2.1;let zQ:=eG.upd (o:=.lst (gK.map V.ref)) u0 LL;let Y:(Ő) G=some (.lst (iv ((JM.aJ 10 j).getLastD []))):=by rw[aq LM];exact Cb
 let O:(Ő) pl=some þ:=ao;generalize Ő=J at S zQ Y O;apply(_,Á,dv _,λM U=>?_);let Z:=fe (o:=.lst []) S (S.free U);let I:ai J (upd J M â):=aK U;refine⟨G,M,_,Á,Á,aa.of (I _ _ Y),aa.of ao,_,Á,ba Î Î⟩
 .let hc:(JM.aJ 10 j).getLastD []=[]:=by simpa using hc
  apply(_,Á,k _ _ Z ?_);delta jL;rw[af hc];exact(pl,gK,Á,m.2.1,I _ _ O,zQ.same I,λq hq=>hf q (AW _ hq))
 .let hc:¬(JM.aJ 10 j).getLastD []=[]:=by simpa using hc
  apply k _ _ Z ?_;delta jL;rw[ah hc];rfl
end
structure g8 where
 role:Nat
 name:LI
 j4:Int
 copies:Int
 shape:Nat
 look:LI
abbrev aF:=List g8
structure aA where
 a:Addr
 dx:Addr
 nm:Addr
 lk:Addr
 m:g8
def wz(k:aA):List (Str×V):=[("role",.int (k.m.role:Nat)),("name",.ref k.nm),("which",.int k.m.j4),("copies",.int k.m.copies),("shape",.int (k.m.shape:Nat)),("look",.ref k.lk)]
def j5(C:Addr)(k:aA):jt:=[(k.a,.ins C k.dx (wz k)),(k.nm,.lst (iv k.m.name)),(k.lk,.lst (iv k.m.look))]
def wB(k:aA):(wz k).lookup ("role":Str)=some (.int (k.m.role:Nat)):=gZ
def Uk(k:aA):(wz k).lookup ("name":Str)=some (.ref k.nm):=(fw Ê).trans gZ
def L7(k:aA):(wz k).lookup ("which":Str)=some (.int k.m.j4):=(fw Ê).trans ((fw Ê).trans gZ)
def L9(k:aA):(wz k).lookup ("copies":Str)=some (.int k.m.copies):=(fw Ê).trans ((fw Ê).trans ((fw Ê).trans gZ))
def Ul(k:aA):(wz k).lookup ("shape":Str)=some (.int (k.m.shape:Nat)):=(fw Ê).trans ((fw Ê).trans ((fw Ê).trans ((fw Ê).trans gZ)))
def Um(k:aA):(wz k).lookup ("look":Str)=some (.ref k.lk):=(fw Ê).trans ((fw Ê).trans ((fw Ê).trans ((fw Ê).trans ((fw Ê).trans gZ))))
structure u4 where
 a:Addr
 dx:Addr
 nm:Addr
 kl:Addr
 name:LI
 kinds:List aA
def FA(l:u4):List (Str×V):=[("name",.ref l.nm),("kinds",.ref l.kl)]
def zT(C:Addr)(ks:List aA):jt:=ks.flatMap (j5 C)
def agO(l:u4):(FA l).lookup ("name":Str)=some (.ref l.nm):=gZ
def FB(l:u4):(FA l).lookup ("kinds":Str)=some (.ref l.kl):=(fw Ê).trans gZ
structure tj(K:FR)(C:Addr):Prop where
 c:lh K C
 wC:ϭ "role"
 nName:ϭ "name"
 Ma:ϭ "which"
 Mb:ϭ "copies"
 zK:ϭ "shape"
 Uo:ϭ "look"
structure LkT(K:FR)(C:Addr):Prop where
 c:lh K C
 nName:ϭ "name"
 arb:ϭ "kinds"
structure j6(K:FR)(mg:MG)(x:Str)(C N:Addr):Prop where
 c:XC K C N
 mU:PySem.W.nsIn K N "__init__"=some none
 mC:mg x=some ā
 keep:PySem.W.keepIn K ā=true
section
variable{P:Pg}{w:Wd}{K:FR}{mg:MG}{base:Heap}{C CN N:Addr}
abbrev No(E:XK)(C:Addr)(H:Hp):Prop:=∀H',ai H H'->E ā none H'
def No.go(h:No E C H)(s:ai H H1):No E C H1:=λj S=>h j (s.trans S)
def gM(h:No E C H):∀x,H x=none->∃(a:Addr)(od:OA),V.ref x=V.ref a/\Áj Ŕ a=some (exc C od .none a)/\(∀d,od=some d->d≠a)/\E ā od (Áj Ŕ):=
 λx j=>⟨x,none,rfl,ao,λd z=>(by cases z),h _ (aK j)⟩
inductive Mc(K:FR)(CN:Addr)(vs:au)(H:Hp)(Q:VK)(E:XK):Prop
 |mk (ap:Addr) (part:LI) (_:vs=[.ref ap]) (_:ä ap Ãh) (_:part.length<=100000) (_:(iP part=true->∀H',ai H H'->Q Èy H')) (_:(iP part=false->No E CN H))
def agQ:bO ["word"] ["word"] (aZ Ko):=cu
def agR(F:bu K "read_name" "read_name" Ko f fd)(X:œ "NoLocker" CN N)(m:Ç 3 "is_name" ["part"] (LW K)):
  a9 P w K mg base Ď 4 f fd ["word"] (Mc K CN):=by
 refine F.qk agQ Â;let(j,part,rfl,z,G,k1,k2):=h;apply(_,aB (dj (pY (jD (bx m ó))) ŉ dY) (aD (a7 Û)),?_);refine⟨_,Á,j,part,Á,z,G,λH1 S=>⟨_,Á,ba Î Î⟩⟩
 .exact gM ((k2 É).go S)
 .exact(_,Á,k1 É H1 S)
def iG(w:LI)(m:Int):Option Int:=match w with
 |[d]=>if d<49\/d>48+m then none else some (d-48)
 |_=>none
inductive Md(K:FR)(CN:Addr)(vs:au)(H:Hp)(Q:VK)(E:XK):Prop
 |mk (ap:Addr) (part:LI) (most:Int) (_:vs=[.ref ap,.int most]) (_:ä ap Ãh) (_:part.length<=100000) (_:(∀d,iG part most=some d->∀H',ai H H'->Q (.int d) H')) (_:(iG part most=none->No E CN H))
def agS:bO ["word","most"] ["word","most"] (aZ Kq):=cu
def agT(F:bu K "read_digit" "read_digit" Kq f fd)(tL:mg "len"=none)(X:œ "NoLocker" CN N)(G:Cn mg "DIGIT_ZERO" (.int 48)):
  a9 P w K mg base Ď 1 f fd ["word","most"] (Md K CN):=by
 refine F.qk agS Â;let(j,part,m,rfl,z,J,k1,k2):=h;refine⟨_,aB (dj (PW.pt (pw_or (cI vP ć bp (bV _))
   (pw_or (cI xE Ça (eS qZ (cf G) bp) (bV _)) (pw_or1 (cI vQ Ça (eS qZ (cf G) ã) (bV _))))))
   (Ú) dY) (aD (a7 (eS rg Ça (cf G)))),?_⟩
 refine⟨_,Á,j,_,Á,.inl z,Á,_,Á,ba Î Î⟩
 .let e:iG part m=none:=by
   delta iG;grind
  exact gM (k2 e)
 .obtain⟨d,rfl⟩:∃d,part=[d]:=by
   match part with
   |[d]=>exact(d,Á)
   |[]=>exact absurd (by simp[iv]) hc
   |a::b::r=>
    exfalso;apply hc;simp only[iv,az,dc,Bool.not_eq_true',A2];intro q;injection q with q;omega
  let I:iG [d] m=if d<49\/d>48+m then none else some (d-48):=rfl;refine⟨_,Á,j,_,0,V.int d,Á,Á,z,Á,_,_,Á,Á,_,_,Á,Á,_,Á,ba Ť Ť⟩
  .simp at h1;exact gM (k2 É)
  .simp at h1;refine⟨_,Á,j,_,0,V.int d,Á,Á,z,Á,_,Á,_,_,Á,Á,_,_,Á,Á,_,Á,ba Ár Ár⟩
   .simp at h2;exact gM (k2 É)
   .simp at h2;exact(_,Á,j,_,0,V.int d,Á,Á,z,Á,_,_,Á,Á,(k1 _ É H Ž))
end
def wD{C:Addr}{ns:LS}{as:au}{H1:Hp}{Q:VK}{E:XK}(J:as.length=ns.length)(h:∀x dx H',H1 x=none->H1 dx=none->dx≠x->H' x=some (.ins C dx (ns.zip as))->ai H1 H'->Q š H'):
  ∀x dx,H1 x=none->H1 dx=none->dx≠x->Fn C ns (.ref x::(as++[])) (upd (upd H1 dx Åj) x Âo) (λv z=>v=.aL/\Q š z) E:=λx dx m hd F=>
 ⟨x,dx,as,by rw[jV],J,ao,λH' G I=>⟨rfl,h x dx H' m hd F G λb o j=>I b o (by rw[aq (eQ j m),aq (eQ j hd)];exact j) (eQ j m)⟩⟩
theorem eG.at{H:Hp}{qs:LA}{L:c7}(h:eG H qs L){j:Nat}(m:j<L.length):∃q,q∈qs/\Än[j]? =some Çm/\H q=some (.lst (iv (L.getD j []))):=by
 induction h generalizing j with
 |nil=>exact absurd m Ä
 |cons r t I=>
  cases j with
  |zero=>exact(_,by simp,rfl,r)
  |succ j=>
   let(q,a,b,c):=I (j:=j) (À m);exact(q,aP _ a,b,c)
def Me{α:Type}{xs:List α}{k:Nat}{v:α}(hk:0<k)(h:xs[xs.length-k]? =some v)(j:k<=xs.length):p9 xs (-(k:Int))=some v:=by
 let e:sN xs.length (-(k:Int))=some (xs.length-k):=by
  delta sN;grind
 delta p9;symm
def u5:LS:=["sign","same","answer"]
def jM:LS:=["square","tails","long"]
def l5(r:Nat)(w:LI):Option LI:=if r=0 then (if iP w=true then some w else none) else some []
def rM(r:Nat)(w:LI):Option Int:=if r=1 then iG w 4 else some 0
def rN(r:Nat):Option LI->Option Int->Option Int->Option Nat->Option LI->Option g8
 |some n,some h,some c,some s,some l=>some ⟨r,n,h,c,s,l⟩
 |_,_,_,_,_=>none
def o5(ws:c7):Option g8:=match bj ϗ Àg with
 |none=>none
 |some r=>if ws.length=(if r=2 then 4 else 5) then rN r (l5 r ŏ) (rM r ŏ) (iG (ws.getD (ws.length-3) []) 8) (bj ÿ (ws.getD (ws.length-2) [])) (iw (ws.getD (ws.length-1) [])) else none
def iQ(line:LI):Option g8:=o5 (JM.aJ 32 line)
def FC{b c d e}:rN r none b c d e=none:=by cases b <;> cases c <;> cases d <;> cases e <;> rfl
def FE{a c d e}:rN r a none c d e=none:=by cases a <;> cases c <;> cases d <;> cases e <;> rfl
def Mf{a b d e}:rN r a b none d e=none:=by cases a <;> cases b <;> cases d <;> cases e <;> rfl
def FF{a b c e}:rN r a b c none e=none:=by cases a <;> cases b <;> cases c <;> cases e <;> rfl
def FG{a b c d}:rN r a b c d none=none:=by cases a <;> cases b <;> cases c <;> cases d <;> rfl
def zU{j:c7}{part:LI}{r:Nat}(h:bj j part=some r):r<j.length:=by
 delta bj at h;let(m,_):=P1.mp h;exact m
inductive Mg(K:FR)(CK CN:Addr)(vs:au)(H:Hp)(Q:VK)(E:XK):Prop
 |mk (ap:Addr) (line:LI) (_:vs=[.ref ap]) (_:ä ap Æe) (_:line.length<=100000) (_:(∀m,iQ line=some m->∀H' k,ai H H'->k.m=m->aV H' (j5 CK k)->(∀x∈j5 CK k,H x.1=none)->Q (.ref k.a) H')) (_:(iQ line=none->No E CN H))
section
variable{P:Pg}{w:Wd}{K:FR}{mg:MG}{base:Heap}{CK CN N:Addr}
def wH:bO ["line","words","role","name","which","copies","shape","look"] ["line"] (aZ Kr):=cu
def agU(h2:σ[2]? =some (some (.int (r:Nat))))(G:σ[1]? =some (some ĥ))(J:ä p xs)(m:xs[1]? =some (.ref q1))(F:H q1=some (.lst (iv w1)))(M:w1.length<=100000)(no:l5 r w1=none->No E CN H) (yes:∀n,l5 r w1=some n->∀z a,ai H z->z a=some (.lst (iv n))->(a=q1\/H a=none)->Q Ğ z):
  xA (nM (bX oQ ś Äk)) (ie (Mc K CN) [] E (bq (bX Ż ϓ Åm) dQ)) (zf dQ) σ H Q:=by
 refine⟨_,h2,Á,_,Á,ba Î Î⟩
 .let e:r=0:=by
   symm
  delta l5 at no yes;rw[af e] at no;apply(_,G,p,xs,1,.ref q1,Á,Á,J,fU (j:=1) m,q1,w1,Á,aa.of F,M,λI H' s'=>?_,λI=>no É);apply yes w1 ?_ H' q1 s' (s' _ _ F) ę;symm
 .let e:¬r=0:=by
   symm
  exact(dv _,λx m=>(yes [] (by delta l5;rw[ah e]) _ x (aK m) ao (.inr m)))
def agV{K:FR}{CN:Addr}{E:XK}{σ:L2.St}{H:Hp}{Q:VK}{p:Addr}{xs:au}{r:Nat}{m:Addr}{w1:LI}(h2:σ[2]? =some (some (.int (r:Nat))))(G:σ[1]? =some (some ĥ))(J:ä p xs)(S:xs[1]? =some (.ref m))(M:H m=some (.lst (iv w1)))(O:w1.length<=100000)(no:rM r w1=none->No E CN H) (yes:∀n,rM r w1=some n->∀F,ai H F->Q (.int n) F):
  xA (nM (bX oQ ś Åm)) (ie (Md K CN) [] E (bq (bX Ż ϓ Åm) (bq (tC (.int 4)) dQ))) Äk σ H Q:=by
 refine⟨_,h2,Á,_,Á,ba Î Î⟩
 .let e:r=1:=by
   let:V.int (r:Nat)=V.int 1:=À hc
   injection this with this;omega
  delta rM at no yes;rw[af e] at no yes;exact(_,G,p,xs,1,.ref m,Á,Á,J,fU (j:=1) S,m,w1,4,Á,aa.of M,O,λd hd H' s'=>yes d hd H' s',λI=>no I)
 .let e:¬r=1:=by
   intro z;apply hc;rw[z];simp
  exact yes 0 (by delta rM;rw[ah e]) H Ž
def agW{f:Addr}{fd:FD}(F:bu K "read_kind" "read_kind" Kr f fd)(tL:mg "len"=none)(X:œ "NoLocker" CN N)(cB:Cn mg "BLANK" Åe)(cR:Tn K mg "ROLES" (u5.map V.str))(cW:Tn K mg "WORDS_OF_ROLES" [.int 5,.int 5,.int 4])(cS:Cn mg "SIGN" Ō) (cSa:Cn mg "SAME" Ţ) (cMS:Cn mg "MOST_SAME" (.int 4)) (cMC:Cn mg "MOST_COPIES" (.int 8)) (cSh:Tn K mg "SHAPES" (jM.map V.str))(dC:Ç 1 "cut" ["text","mark"] (wq K)) (dA:Ç 2 "place_among" ["words","part"] (B6 K)) (dN:Ą Ď 4 "read_name" ["word"] (Mc K CN)) (dD:Ą Ď 1 "read_digit" ["word","most"] (Md K CN))(dR:Ç 3 "read_colours" ["part"] (Lq K)) (dK:ă "Kind" CK ["role","name","which","copies","shape","look"]):Ì Ď 5 f fd ["line"] (Mg K CK CN):=by
 let(aR,mR,hR):=cR;let(aW,mW,hW):=cW;let(Up,mSh,hSh):=cSh;let(fN,Ub,GN,mN,kN,bN):=dN;let(fD,fdD,GD,mD,kD,bD):=dD;refine F.qk wH Â;let(ap,line,rfl,hP,hl,k1,k2):=h;let uY:dy 1 _:=hr.mono Ù;refine⟨_,aB (cq 1 wH.nd (bx (hr:=hr) dC (ae Û ž)))
  (aB (cq 2 wH.nd (bx (hr:=hr) dA (ae (uF (v:=.ref aR) Ô mR rfl) ř)))
  (aB (dj (PW.pt (pw_or Ær (pw_or1 (cI vP ý (cA zi (uF (v:=.ref aW) Ô mW rfl) ç Ø) (bV _)))))
   (Ú) dY)
  (aB (cq 3 wH.nd (sJ (cI ir ç Æz (bV _)) (mq GN hr rfl mN kN bN .nil rD ř) Ī))
  (aB (cq 4 wH.nd (sJ (cI ir ç (cf cSa) (bV _)) (mq GD uY rfl mD kD bD .nil rD (ae (cA cZ ã bp Ø) (ae (cf cMS) ag))) bp))
  (aB (cq 5 wH.nd (mq GD uY rfl mD kD bD .nil rD (ae Âi (ae (cf cMC) ag))))
  (aB (cq 6 wH.nd (bx (hr:=hr) dA (ae (uF (v:=.ref Up) Ô mSh rfl) (ae Âi ag))))
  (aB (cq 7 wH.nd (bx (hr:=hr) dR (ae Âi ag)))
  (aB (dj (PW.pt (pw_or (nI (qX Ãu)) (pw_or1 (nI (qX Åv))))) Ú dY)
  (aD (a7 (qy dK hr (ae ç (ae ø (ae Ĵ (ae Äo (ae Ãu (ae Åv ag))))))))))))))))),?_⟩
 apply(_,Á,ap,32,line,Á,hP,hl,λH1 p qs J O nd np hf=>?_);let s1:=J.1;let hws:=λw hw=>ia (x9 32 line w hw) hl;let ek:iQ line=o5 (JM.aJ 32 line):=rfl;let aU:=JM.lZ 32 line;generalize JM.aJ 32 line=ws at O hws ek aU;let cO:(qs.map V.ref).length=ws.length:=by rw[az,O.len]
 let I:∀j,(ws.getD j []).length<=100000:=λj=>by
  grind
 let(q0,B5,tm,hh0):=O.at (j:=0) (by grind);apply(_,Á,p,_,0,_,Á,Á,aa.of J.2.2,fU (j:=0) tm,aR,q0,u5,ws.getD 0 [],Á,hR H1,by decide,aa.of hh0,λH2 U=>?_);let m:=s1.trans U;refine⟨_,Á,_,Á,ba Î Î⟩
 .let hc:oI (bj ϗ Àg)=V.aL:=by simpa using hc
  let e:iQ line=none:=by
   rw[ek];delta o5;cases z:bj ϗ Àg with
   |none=>rfl
   |some i=>rw[z] at hc;cases hc
  exact gM ((k2 e).go m)
 .let hc:¬oI (bj ϗ Àg)=V.aL:=by simpa using hc
  obtain⟨r,er⟩:∃r,bj ϗ Àg=some r:=by
   cases z:bj ϗ Àg with
   |none=>rw[z] at hc;exact absurd Á hc
   |some i=>simp
  let ag5:=zU er;rw[er];let Y:iQ line=if ws.length=(if r=2 then 4 else 5) then rN r (l5 r ŏ) (rM r ŏ) (iG (ws.getD (ws.length-3) []) 8) (bj ÿ (ws.getD (ws.length-2) [])) (iw (ws.getD (ws.length-1) [])) else none:=by
   rw[ek];delta o5;symm
  let eat:p9 [V.int 5,V.int 5,V.int 4] (r:Int)=some (.int ((if r=2 then 4 else 5:Nat):Int)):=by
   match r,ag5 with
   |0,_=>rfl
   |1,_=>rfl
   |2,_=>rfl
  refine⟨_,Á,p,_,Á,.inl (aa.of (U _ _ J.2.2)),_,Á,aW,_,(r:Int),_,Á,Á,hW H2,eat,Á,_,Á,ba ě ě⟩
  .let hd:¬ws.length=(if r=2 then 4 else 5):=by
    grind
   exact gM ((k2 É).go m)
  .let hd:ws.length=(if r=2 then 4 else 5):=by
    grind
   rw[af hd] at Y;let h4:4<=ws.length:=by rw[hd];split <;> decide
   let qT:=O.same U;let M:=U _ _ J.2.2;let(q1,Mh,zV,Uq):=qT.at (j:=1) Å;let(q5,hq5,hx5,hh5):=qT.at (j:=ws.length-3) Å;let(q6,hq6,Ur,hh6):=qT.at (j:=ws.length-2) Å;let(q7,hq7,hx7,hh7):=qT.at (j:=ws.length-1) Å;apply agU (r:=r) (w1:=ws.getD 1 []) Á Á (aa.of M) zV Uq (I 1) (λz=>(k2 (by rw[Y,z,FC])).go m) λnm enm H3 an S hn3 han=>?_;apply agV (r:=r) (w1:=ws.getD 1 []) Á Á (aa.of (S _ _ M)) zV (S _ _ Uq) (I 1) (λz=>(k2 (by rw[Y,z,FE])).go (m.trans S)) λwh ewh H4 s4=>?_;let oX:=(m.trans S).trans s4;let yd:=S.trans s4;apply(_,Á,_,Á,p,_,_,_,Á,Á,aa.of (yd _ _ M),Me (k:=3) Ù É Å,q5,ws.getD (ws.length-3) [],8,Á,aa.of (yd _ _ hh5),I _,λcp ecp H5 s5=>?_,λz=>(k2 (by rw[Y,z,Mf])).go oX);let wI:=oX.trans s5;let Z:=yd.trans s5;apply(_,Á,_,Á,p,_,_,_,Á,Á,aa.of (Z _ _ M),Me (k:=2) Ù É Å,Up,q6,jM,ws.getD (ws.length-2) [],Á,hSh H5,by decide,aa.of (Z _ _ hh6),λH6 s6=>?_);let W:=wI.trans s6;let Us:=Z.trans s6;apply(_,Á,_,Á,p,_,_,_,Á,Á,aa.of (Us _ _ M),Me (k:=1) Ù É Å,q7,ws.getD (ws.length-1) [],Á,aa.of (Us _ _ hh7),I _,λz H7 G=>?_,λlk elk H7 al Mj=>?_)
   .let no:=(k2 (by rw[Y,z,FG])).go (W.trans G);exact(_,Á,_,Á,ba (λ_=>gM no) (λ_=>⟨_,Á,_,Á,lx (gM no)⟩))
   .let G:=Mj.1;apply(_,Á,_,Á,ba (λhs=>?_) (λhs=>⟨_,Á,_,Á,nV ?_⟩))
    .let hs:oI (bj ÿ (ws.getD (ws.length-2) []))=V.aL:=by simpa using hs
     let z:bj ÿ (ws.getD (ws.length-2) [])=none:=by
      cases z:bj ÿ (ws.getD (ws.length-2) []) with
      |none=>rfl
      |some i=>rw[z] at hs;cases hs
     exact gM ((k2 (by rw[Y,z,FF])).go (W.trans G))
    .let hs:¬oI (bj ÿ (ws.getD (ws.length-2) []))=V.aL:=by simpa using hs
     obtain⟨sh,Ut⟩:∃i,bj ÿ (ws.getD (ws.length-2) [])=some i:=by
      cases z:bj ÿ (ws.getD (ws.length-2) []) with
      |none=>rw[z] at hs;exact absurd Á hs
      |some i=>simp
     rw[Ut];apply(_,Á,_,Á,_,Á,_,Á,_,Á,_,Á,wD Á λx dx H8 hx iW aU e8 s8=>?_);let zW:=W.trans G;let u6:iQ line=some ⟨r,nm,wh,cp,sh,lk⟩:=by rw[Y,enm,ewh,ecp,Ut,elk];rfl
     apply k1 _ u6 H8 ⟨x,dx,an,al,⟨r,nm,wh,cp,sh,lk⟩⟩ (zW.trans s8) Á Ào λy hy=>?_
     .simp only[j5,a0,lO,lQ] at hy;rcases hy with rfl|rfl|rfl
      .exact e8
      .exact s8 _ _ (G _ _ (s6 _ _ (s5 _ _ (s4 _ _ hn3))))
      .exact s8 _ _ Mj.2.2
     .simp only[j5,a0,lO,lQ] at hy;rcases hy with rfl|rfl|rfl
      .exact zW.free hx
      .rcases han with rfl|z
       .symm
       .exact m.free z
      .exact W.free Mj.2.1
end
def Uu{K:FR}{H H':Hp}(s:ai H H'){vs:au}{j:List PyData}(x:Áo vs j):jd K H' vs j:=
 jd.rec (motive_1:=λv d _=>Dp K H' v d) (motive_2:=λvs j _=>jd K H' vs j) .aL .bl .int .str (λh _ r=>.lst (s.seq h) r) (λh _ r=>.tup (ai.tup s h) r) .nil (λ_ _ h r=>.cons h r) x
def ahg{K:FR}{H H':Hp}(s:ai H H'){v:V}{d:PyData}(x:Dp K H v d):Dp K H' v d:=by
 cases Uu s (.cons x .nil);assumption
theorem ahh{K:FR}{H:Hp}{vs:au}:∀{j:List PyData}(n:Nat),Áo vs j->Áo (vs.take n) (j.take n):=by
 induction vs with
 |nil=>intro j n h;cases h;cases n <;> exact .nil
 |cons v vs I=>
  intro j n h;cases h with
  |cons h r=>cases n with
   |zero=>exact .nil
   |succ n=>exact .cons h (I n r)
theorem ahi{K:FR}{H:Hp}{vs:au}:∀{j:List PyData}{i:Nat}{v:V},Áo vs j->vs[i]? =some v->∃d,j[i]? =some d/\Dp K H v d:=by
 induction vs with
 |nil=>intro j i v _ e;simp at e
 |cons v vs I=>
  intro j i v h e;cases h with
  |cons h r=>cases i with
   |zero=>
    let:=aI e;subst this;exact(_,Á,h)
   |succ i=>have q:=I (i:=i) r e;exact q
def Uv(xs:au){i:Nat}(h:i<=xs.length):oS xs none (some (i:Int))=xs.take i:=by
 delta oS;rw[HT.QT,HT.QU,List.drop_zero,Nat.sub_zero,Nat.min_eq_left h]
def Cd(xs:au)(h:i<=xs.length):oS xs (some (i:Int)) none=xs.drop i:=by
 delta oS;rw[HT.QT,HT.QU,Nat.min_eq_left h];exact AY Ä
def u7{α:Type}{ys:au}{L:List α}{g:α->V}(j:ys.length=L.length)(h:∀(i:Nat)(y:V)(x:α),ys[i]? =some y->L[i]? =some x->y=g x):ys=L.map g:=by
 apply xt;grind
def yf{n i:Nat}{x:Nat}(h:Èv[i]? =some x):x=i:=by
 let(j,h2):=bH.mp h;rw[aqp] at h2;exact h2.symm
def yg(j:List PyData)(i:Nat):Bool:=(j.take i).any λd=>PyData.eqv d (j.getD i .none)
def o6(j:List PyData):Bool:=(List.range j.length).any (yg j)
inductive Uw(K:FR)(vs:au)(H:Hp)(Q:VK)(E':XK):Prop
 |mk (p:Addr) (xs:au) (ds:List PyData) (_:vs=[.ref p]) (_:ä p xs) (_:Áo xs ds) (_:(∀d∈ds,SeqAt.shaped d=true)) (_:xs.length<=100000) (_:∀H',ai H H'->Q (.bl (o6 ds)) H')
section
variable{P:Pg}{w:Wd}{K:FR}{mg:MG}{base:Heap}{CK CN N:Addr}
def Ml:bO ["things","place","thing"] ["things"] (aZ Kx):=cu
def ahj{f:Addr}{fd:FD}(F:bu K "has_twice" "has_twice" Kx f fd)(Y:mg "any"=none)(tE:mg "enumerate"=none):Ì aE 1 f fd ["things"] (Uw K):=by
 refine F.ok Ml Â;let(p,xs,j,rfl,G,hd,I,hl,k):=h;let W:A.units+3+128<cLine:=by let:=hr.un;exact pP Ä this
 refine⟨_,aD (a7 (df (Ri Á) Ô Y boot_any (ae (eE (own:=[("place",1),("thing",2)]) (g:=g2 K 1 2) (te:=bX (Su K) ś (QY (Q1 K) ϔ QV (QW ϓ))) Á Ml.nd Âv Ë
  (λ_ _ _ _ _=>iL 1 2 Ml.nd) Ö
  (λ_ _ _ _ _=>jF (JI W) ç (xK xM Û xI (xJ ã)) (by with_unfolding_all rfl))) ag))),?_⟩
 apply(_,Á,p,xs,Á,G,λD hD=>lY (K:=K) (a:=p) (xs:=xs) (ck H D λi y ns=>ns=[]/\y=.bl (yg j i)) ĉ (λi H' _ f=>f.same.seq G) (λi x T H' hi f U=>?_) û)
 .let Z:=(bH.mp hi).1;apply(T,_,Á,bw.of ao,Á,_,_,Á,_,_,Á,Á,Á,eM ?_);let s1:ai H' (upd H' T (.tup [.int (i:Nat),x])):=aK U;let s2:=f.same.trans s1;apply(_,Á,_,Á,_,Á,_,Á,p,xs,Á,s2.seq G,λc hc=>?_);let s3:=aK (o:=.lst (oS xs none (some (i:Int)))) hc;let(d,m,O):=ahi hd hi;apply(c,_,j.take i,d,Á,aa.of ao,?_,ahg į O,λd hd=>I d (HV hd),I d (bI m),?_)
  .let z:=Uu į (ahh i hd);rw[Uv xs Å] at z⊢;omega
  .refine f.step hD Å Ån ų aV.nil Ä;delta yg;symm
 .let(ys,s1,m,M,fl):=f.end;let J:ys=((List.range j.length).map (yg j)).map V.bl:=by
   rw[cV];apply u7 (by rw[M,ib,Sw hd]) λi y x S h2=>?_;let(ns,(_,e),_):=fl i y S;grind
  apply(D,(List.range j.length).map (yg j),Á,?_,?_)
  .rw[<-J];exact aa.of m
  .let q:=k H' s1;delta o6 at q;symm
def iR(a b:g8):Bool:=if a.role=0/\b.role=0 then true else HT.lexLt [(a.role:Nat),a.j4] [(b.role:Nat),b.j4]
inductive Mm(CK:Addr)(vs:au)(H:Hp)(Q:VK)(E':XK):Prop
 |mk (a b:aA) (_:vs=[.ref a.a,.ref b.a]) (_:aV H (j5 CK a)) (_:aV H (j5 CK b)) (_:∀H',ai H H'->Q (.bl (iR a.m b.m)) H')
def jv(h:aV H (j5 C k)):H k.a=some (.ins C k.dx (wz k)):=h (k.a,_) (by simp[j5])
def Ux(h:aV H (j5 C k)):H k.nm=some (.lst (iv k.m.name)):=h (k.nm,_) (by simp[j5])
def Uy(h:aV H (j5 C k)):H k.lk=some (.lst (iv k.m.look)):=h (k.lk,_) (by simp[j5])
def mj(n m:Nat):decide (V.int (n:Nat)=V.int (m:Nat))=decide (n=m):=by
 grind
def ahk:bO ["before","kind"] ["before","kind"] (aZ Ku):=cu
def ahl(F:bu K "may_follow" "may_follow" Ku f fd)(T:tj K CK)(cS:Cn mg "SIGN" Ō):Ì aE 1 f fd ["before","kind"] (Mm CK):=by
 refine F.ok ahk Â;let(a,b,rfl,j,G,k):=h;refine⟨_,aB (dj (PW.pt (pw_and (cI ir Ŗ Æz (bV _)) (pw_and1 (cI ir (bg ã Á) Æz (bV _))))) Âk dY)
  (aD (a7 (jF (abi hr.aa5) (uH (ae Ĉ Äz)) (uH (ae ŀ (ae ŀ ag))) (bV _)))),?_⟩
 let bQ:¬(a.m.role=0/\b.m.role=0)->Bi (bX (QZ K) (xG (bq (fQ K ϔ "role") (bq (fQ K ϔ "which") dQ))) (xG (bq (fQ K ϓ "role") (bq (fQ K ϓ "which") dQ)))) {nx:=λ_ H'=>Q .aL H',rt:=Q} [some (.ref a.a),some Çn] H:=λJ=>by
  apply(_,Á,bc (jv j) T.c T.wC (wB a) ⟨_,Á,bc (jv j) T.c T.Ma (L7 a) ⟨(by show 2<=sizeLine;decide),λI h1=>?_⟩⟩);let s1:=aK (o:=.tup [.int (a.m.role:Nat),.int a.m.j4]) h1;apply(_,Á,bc (s1 _ _ (jv G)) T.c T.wC (wB b) ⟨_,Á,bc (s1 _ _ (jv G)) T.c T.Ma (L7 b) ⟨(by show 2<=sizeLine;decide),λt2 h2=>?_⟩⟩);let s2:=aK (o:=.tup [.int (b.m.role:Nat),.int b.m.j4]) h2;apply(I,t2,[(a.m.role:Nat),a.m.j4],[(b.m.role:Nat),b.m.j4],Á,Á,bw.of (s2 _ _ ao),bw.of ao,?_);let q:=k _ Ác;delta iR at q;grind
 refine⟨_,Á,bc (jv j) T.c T.wC (wB a) Ķ⟩;rw[show V.int 0=V.int ((0:Nat):Int) from rfl,mj];refine ba Ť Ť
 .simp at h1;refine⟨_,Á,bc (jv G) T.c T.wC (wB b) Ķ⟩;rw[mj];refine ba Ár Ár
  .simp at h2;let q:=k H Ž;delta iR at q;rw[af ⟨h1,h2⟩] at q;exact q
  .simp at h2;exact bQ λz=>h2 z.2
 .simp at h1;exact bQ λz=>h1 z.1
end
def n8{C:Addr}{H:Hp}{ks:List aA}(h:aV H (zT C ks)){k:aA}(hk:k∈ks):aV H (j5 C k):=λx j=>h x (kZ.mpr ⟨k,hk,j⟩)
def ahm(h:∀k∈ks,aV H (j5 C k)):aV H (zT C ks):=λx j=>by
 let(k,hk,j):=kZ.mp j;exact h k hk x j
theorem FJ{l:List aA}{i:Nat}{y:V}(h:(l.map λk=>V.ref k.a)[i]? =some y):∃z,l[i]? =some z/\y=V.ref z.a:=by
 rw[bz] at h;cases e:l[i]? with
 |none=>rw[e] at h;cases h
 |some z=>rw[e] at h;exact(z,Á,(aI h).symm)
def isSign(m:g8):Bool:=decide (m.role=0)
def oa(ms:aF):Bool:=if (ms.filter isSign).length<1\/(ms.filter isSign).length>48 then false else (ms.zip (ms.drop 1)).all λp=>iR p.1 p.2
inductive FK(CK:Addr)(b:aF->Bool)(vs:au)(H:Hp)(Q:VK)(E':XK):Prop
 |mk (p:Addr) (ks:List aA) (_:vs=[.ref p]) (_:H p=some (.lst (ks.map λk=>V.ref k.a))) (_:aV H (zT CK ks)) (_:ks.length<=100000) (_:∀H',ai H H'->Q (.bl (b Í)) H')
def FL{α:Type}{p:α->Bool}{l:List α}{i:Nat}{x:α}(h:l[i]? =some x):(l.take (i+1)).filter p=(l.take i).filter p++(if p x=true then [x] else []):=by
 rw[take_snoc h,DT];congr 1;by_cases z:p x=true
 .rw[af z];simp[z]
 .rw[ah z];simp[z]
section
variable{P:Pg}{w:Wd}{K:FR}{mg:MG}{base:Heap}{CK CL CN N:Addr}
def zX:bO ["kinds","signs","kind","place"] ["kinds"] (aZ Ks):=cu
def ahn{f:Addr}{fd:FD}(F:bu K "are_in_order" "are_in_order" Ks f fd)(T:tj K CK)(tL:mg "len"=none)(tA:mg "all"=none)(tE:mg "enumerate"=none)(cS:Cn mg "SIGN" Ō)(cM:Cn mg "MOST_SIGNS" (.int 48))(dF:Ç 1 "may_follow" ["before","kind"] (Mm CK)):Ì aE 2 f fd ["kinds"] (FK CK oa):=by
 refine F.ok zX Â;let(p,ks,rfl,I,hk,hl,k):=h;refine⟨_,aB (cq 1 zX.nd (df gc Ô tL PySem.boot_len (ae (eE (own:=[("kind",2)]) (tt:=nM (bX oQ (fQ K ś "role") Äk)) (te:=ay 2) Á zX.nd Äu Ë
   (λ_ _ _ _ _=>dw 2 zX.nd) (λ_ _ _ _ _=>qg (cI ir (bg ç rfl) Æz (bV _))) Äh) ag)))
  (aB (dj (PW.pt (pw_or (cI xE ã bp (bV _)) (pw_or1 (cI vQ ã (cf cM) (bV _))))) Âk dY)
  (aD (a7 (df (vT rfl) Ô tA yR (ae (eE (own:=[("place",3),("kind",2)]) (g:=g2 K 3 2) (te:=ie (Mm CK) [] E0 (bq (bX Ż ϔ ŗ) (bq ś dQ))) rfl zX.nd
   (lu Ô tE (ae (xK xM Û (xJ bp) xI) ag)) Ë
   (λ_ _ _ _ _=>iL 3 2 zX.nd) Ö
   (λ_ _ _ _ _=>bx dF (ae (cA cZ Û ø Ø) ŧ))) ag))))),?_⟩
 let G:oa Í=if (ks.filter λk=>isSign k.m).length<1\/(ks.filter λk=>isSign k.m).length>48 then false else ((ks.map aA.m).zip ((ks.map aA.m).drop 1)).all λp=>iR p.1 p.2:=by
  delta oa;rw[yS,az];rfl
 refine⟨_,Á,p,Á,⟨_,aa.of I⟩,λD W=>gy (K:=K) (a:=p) (xs:=ks.map λk=>V.ref k.a) (λi H'=>ai H H'/\H' D=some (.lst (((ks.take i).filter λk=>isSign k.m).map λk=>V.ref k.a))) ⟨aK W,ao⟩
  (λi H' _ ⟨S,_⟩=>aa.of (S _ _ I)) (λi y H' hi ⟨S,hd⟩=>?_) (λH' ⟨S,hd⟩=>?_)⟩
 .let(z,j,rfl):=FJ hi;let eA:=(bH.mp j).1;let yh:=(n8 hk (bI j)).same S;refine⟨Á,_,Á,bc (jv yh) T.c T.wC (wB z) Ķ⟩;rw[show V.int 0=V.int ((0:Nat):Int) from rfl,mj];let U:=FL (p:=λk:aA=>isSign k.m) j;refine ba Î Î
  .apply(_,Á,_,hd,?_,fe S W,?_)
   .rw[az];let:=HY (λk:aA=>isSign k.m) (ks.take i);rw[nr] at this;exact gi Å
   .rw[ao,U,af (show isSign z.m=true from hc),bZ];rfl
  .apply(S,?_);rw[U,ah (show ¬isSign z.m=true from hc),jV];omega
 .rw[az,lN] at hd;apply(D,_,Á,.inl (aa.of hd),?_);rw[az];generalize (ks.filter λk=>isSign k.m).length=n at G;refine⟨_,Á,_,_,Á,Á,_,Á,ba Ť Ť⟩
  .let h1:n<1:=by
    grind
   let q:=k H' S;rw[G,af (Or.inl h1)] at q;exact q
  .let h1:¬n<1:=by
    grind
   refine⟨_,Á,_,_,Á,Á,_,Á,ba Ár Ár⟩
   .let h2:n>48:=by
     grind
    let q:=k H' S;rw[G,af (Or.inr h2)] at q;exact q
   .let h2:¬n>48:=by
     grind
    rw[ah (λz=>z.elim h1 h2)] at G;apply(_,Á,_,Á,p,_,Á,aa.of (S _ _ I),λc hc=>?_);let ex:oS (ks.map λk=>V.ref k.a) (some 1) none=(ks.drop 1).map λk=>V.ref k.a:=by
     by_cases j:1<=ks.length
     .rw[show(1:Int)=((1:Nat):Int) from rfl,Cd _ É,PZ]
     .let:ks=[]:=by
       symm
      rw[this];rfl
    rw[ex];let s2:=S.trans (aK (o:=.lst ((ks.drop 1).map λk=>V.ref k.a)) hc);let J:(upd H' c (.lst ((ks.drop 1).map λk=>V.ref k.a))) c=some (.lst ((ks.drop 1).map λk=>V.ref k.a)):=ao;generalize upd H' c (.lst ((ks.drop 1).map λk=>V.ref k.a))=Z at s2 J;apply(c,_,Á,aa.of J,λO cK=>lY (K:=K) (a:=c) (xs:=(ks.drop 1).map λk=>V.ref k.a) (ck Z O λi y ns=>ns=[]/\∃a b,ks[i]? =some a/\ks[i+1]? =some b/\y=.bl (iR a.m b.m)) Ãx (λi H3 _ f=>aa.of (f.same _ _ J)) (λi y Tt H3 hi f hT=>?_) Æk)
    .let(b,hb,rfl):=FJ hi;rw[YY] at hb;let hb:ks[i+1]? =some b:=by rw[<-hb];congr 1;omega
     let hib:=(bH.mp hb).1;obtain⟨a,Y⟩:∃a,ks[i]? =some a:=⟨_,cY Å⟩;let s3:ai H3 (upd H3 Tt (.tup [.int (i:Nat),.ref b.a])):=aK hT;let M:=(s2.trans f.same).trans s3;refine ß;exact(_,Á,_,Á,p,_,(i:Int),.ref a.a,Á,Á,aa.of (M _ _ I),fU É,_,Á,a,b,Á,(n8 hk (bI Y)).same M,(n8 hk Èe).same M,λH5 s5=>(f.step cK Å (s3.trans s5) ⟨Á,a,b,Y,hb,Á⟩ aV.nil Ä))
    .let(ys,s3,nX,FM,fl):=f.end;let j:((ks.map aA.m).zip ((ks.map aA.m).drop 1)).length=ys.length:=by
      symm
     let ey:ys=(((ks.map aA.m).zip ((ks.map aA.m).drop 1)).map λp=>iR p.1 p.2).map V.bl:=by
      rw[cV];apply u7 j.symm λi y x h1 h2=>?_;let(ns,(_,a,b,ea,eb,e),_):=fl i y h1;grind
     apply(O,_,Á,by rw[<-ey];exact aa.of nX,?_);let q:=k H3 į;symm
end
theorem wJ{β:Type}{v:β->V}{nd:β->jt}{H:Hp}{ys:au}:∀{R:Nat->β->Prop},JJ (λi y ns=>∃b,R i b/\y=v b/\ns=nd b) H ys->∃bs:List β,ys=bs.map v/\(∀(i:Nat)(b:β),bs[i]? =some b->R i b)/\∀b∈bs,aV H (nd b):=by
 induction ys with
 |nil=>exact @λR _=>⟨[],Á,λi b h=>by simp at h,by simp⟩
 |cons y ys I=>
  intro R h;let(ns,(b,r,e,en),l):=h 0 y rfl;let(bs,j,G,F):=I (R:=λi b=>R (i+1) b) λi z m=>h (i+1) z m;apply(b::bs,by rw[j,e];rfl,λi c hc=>?_,λc hc=>?_)
  .cases i with
   |zero=>
    let:=aI hc;subst this;exact r
   |succ i=>exact G i c hc
  .rcases a0.mp hc with rfl|hc
   .rw[<-en];exact l
   .exact F c hc
theorem Uz{α:Type}{K:FR}{H:Hp}{v:α->V}{d:α->PyData}{l:List α}:(∀x∈l,Dp K H (v x) (d x))->Áo (l.map v) (l.map d):=by
 induction l with
 |nil=>exact @λ_=>.nil
 |cons x l I=>
  intro h;exact .cons (h x Ä) (I λy j=>h y (aP _ j))
def wK(m:g8):PyData:=.list (m.name.map PyData.int)
def rO(m:g8):PyData:=.tuple [.int (m.shape:Nat),.list (m.look.map PyData.int)]
def o7(ms:aF):Bool:=!o6 ((ms.filter isSign).map wK)&& !o6 Çz
def ahp(m:g8):SeqAt.shaped (rO m)=true:=by
 delta SeqAt.shaped rO;rw[iU,lL];refine Áp
 .simp only[PyData.canLay0,PyData.canLayAll0,Sm,PR]
 .let:=Sn m.look;simp only[PyData.depth,PyData.depthAll];omega
section
variable{P:Pg}{w:Wd}{K:FR}{mg:MG}{base:Heap}{CK CL CN N:Addr}
def Ce:bO ["kinds","names","faces","kind"] ["kinds"] (aZ Kw):=cu
def ahq{f:Addr}{fd:FD}(F:bu K "are_different" "are_different" Kw f fd)(T:tj K CK)(cS:Cn mg "SIGN" Ō)(W:Ç 1 "has_twice" ["things"] (Uw K)):Ì aE 2 f fd ["kinds"] (FK CK o7):=by
 refine F.ok Ce Â;let(p,ks,rfl,O,hk,hl,k):=h;refine⟨_,aB (uO (i:=1) (own:=[("kind",3)]) (tt:=nM (bX oQ (fQ K ŗ "role") Äk)) (te:=fQ K ŗ "name") Á Ce.nd Á Á Ô Äu Ë
   (λ_ _ _ _ _=>dw 3 Ce.nd) (λ_ _ _ _ _=>qg (cI ir (bg ø rfl) Æz (bV _))) (λ_ _ _ _ _=>bg ø rfl))
  (aB (uO (i:=2) (own:=[("kind",3)]) (te:=xG (bq (fQ K ŗ "shape") (bq (fQ K ŗ "look") dQ))) rfl Ce.nd rfl rfl Ô Äu Ë
   (λ_ _ _ _ _=>dw 3 Ce.nd) Ö (λ_ _ _ _ _=>uH (ae (bg ø rfl) (ae (bg ø rfl) ag))))
  (aD (a7 (uG (Bg (bx W Ř)) (sI (Bg (bx W ŧ))))))),?_⟩
 refine⟨_,Á,p,Á,⟨_,aa.of O⟩,λD hD=>gy (K:=K) (a:=p) (xs:=ks.map λk=>V.ref k.a) (λi H'=>ai H H'/\H' D=some (.lst (((ks.take i).filter λk=>isSign k.m).map λk=>V.ref k.nm))) ⟨aK hD,ao⟩
  (λi H' _ ⟨S,_⟩=>aa.of (S _ _ O)) (λi y H' hi ⟨S,hd⟩=>?_) (λH' ⟨S,hd⟩=>?_)⟩
 .let(z,j,rfl):=FJ hi;let eA:=(bH.mp j).1;let Y:=(n8 hk (bI j)).same S;refine⟨Á,_,Á,bc (jv Y) T.c T.wC (wB z) Ķ⟩;rw[show V.int 0=V.int ((0:Nat):Int) from rfl,mj];let et:=FL (p:=λk:aA=>isSign k.m) j;refine ba Î Î
  .apply(_,Á,bc (jv Y) T.c T.nName (Uk z) ⟨_,hd,?_,fe S hD,?_⟩)
   .rw[az];let:=HY (λk:aA=>isSign k.m) (ks.take i);rw[nr] at this;exact gi Å
   .rw[ao,et,af (show isSign z.m=true from hc),bZ];rfl
  .apply(S,?_);rw[et,ah (show ¬isSign z.m=true from hc),jV];omega
 .rw[az,lN] at hd;refine⟨_,Á,p,Á,⟨_,aa.of (S _ _ O)⟩,λU cK=>gy (K:=K) (a:=p) (xs:=ks.map λk=>V.ref k.a) (ck H' U λi y ns=>∃b:Addr×aA,ks[i]? =some b.2/\y=.ref b.1/\ns=[(b.1,.tup [.int (b.2.m.shape:Nat),.ref b.2.lk])]) Ãx
   (λi H2 _ f=>aa.of (f.same _ _ (S _ _ O))) (λi y H2 hi f=>?_) Æl⟩
  .let(z,j,rfl):=FJ hi;let eA:=(bH.mp j).1;let Y:=(n8 hk (bI j)).same (S.trans f.same);apply(Á,eM ⟨_,Á,bc (jv Y) T.c T.zK (Ul z) ⟨_,Á,bc (jv Y) T.c T.Uo (Um z) ⟨(by show 2<=sizeLine;decide),λt ht=>?_⟩⟩⟩);apply f.step cK Å (aK ht) ⟨(t,z),j,Á,Á⟩ Áy λx hx=>?_
   .let:x=(t,_):=nu.mp hx;subst this;exact ao
   .let:x=(t,_):=nu.mp hx;subst this;exact λe=>f.has É
  .let(ys,s2,fh,jq,fl):=f.end;rw[az] at jq;let(bs,e1,r1,l1):=wJ (v:=λb:Addr×aA=>V.ref b.1) (nd:=λb:Addr×aA=>[(b.1,.tup [.int (b.2.m.shape:Nat),.ref b.2.lk])]) (R:=λi b=>ks[i]? =some b.2) fl;let J:=S.trans s2;let Z:bs.map (·.2)=ks:=by
    apply xt;grind
   let gW:∀{I:Hp},ai H2 I->jd K I ys ((ks.map aA.m).map rO):=λ{I}G=>by
    rw[e1,<-Z,cV,cV];apply Uz λb M=>?_;let wL:b.2∈ks:=by rw[<-Z];exact P2 M
    refine .tup (bw.of (G _ _ (l1 b M (b.1,_) (nu.mpr Á)))) (.cons (.int _) (.cons (.lst (aa.of (G _ _ (J _ _ (Uy (n8 hk wL))))) (rF _)) .nil))
   let ef:(ks.map aA.m).filter isSign=(ks.filter λk=>isSign k.m).map aA.m:=by
    rw[yS];rfl
   apply(_,Á,D,_,((ks.filter λk=>isSign k.m).map aA.m).map wK,Á,aa.of (s2 _ _ hd),?_,?_,?_,λI G=>⟨_,Á,_,Á,?_⟩)
   .rw[cV];exact Uz λb M=>(.lst (aa.of (J _ _ (Ux (n8 hk ((kJ.mp M).1))))) (rF _))
   .intro d hd;let(m,_,rfl):=cb.mp hd;exact shaped_ints _
   .grind
   .let q:=k;delta o7 at q;rw[ef] at q;refine ba Î Î
    .rw[hc] at q;apply(_,Á,U,_,(ks.map aA.m).map rO,Á,aa.of (G _ _ fh),gW G,λd hd=>?_,by omega,λH4 s4=>⟨_,rfl,q H4 ((J.trans G).trans s4)⟩);let(m,_,rfl):=cb.mp hd;exact ahp m
    .let hc:(!o6 (((ks.filter λk=>isSign k.m).map aA.m).map wK))=false:=by simpa using hc
     rw[hc,lI] at q;exact q I (J.trans G)
end
def gO:c7->Option aF
 |[]=>some []
 |l::r=>match iQ l,gO r with
  |some m,some ms=>some (m::ms)
  |_,_=>none
theorem UA{r:c7}:∀{l:LI},l∈r->iQ l=none->gO r=none:=by
 induction r with
 |nil=>intro l h;cases h
 |cons x r I=>
  intro l h e;delta gO;rcases a0.mp h with rfl|h
  .rw[e]
  .rw[I h e];cases iQ x <;> rfl
theorem ahr{r:c7}:∀{ms:aF},ms.length=r.length->(∀(i:Nat)l m,r[i]? =some l->ms[i]? =some m->iQ l=some m)->gO r=some ms:=by
 induction r with
 |nil=>
  intro ms h _;cases ms with
  |nil=>rfl
  |cons _ _=>cases h
 |cons l r I=>
  intro ms h k;cases ms with
  |nil=>cases h
  |cons m ms=>
   delta gO;rw[k 0 l m rfl rfl,I (ms:=ms) (À h) λi l m j h2=>k (i+1) l m j h2]
def zY(n:Option LI)(ks:Option aF):Option (LI×aF):=match n,ks with
 |some n,some ms=>if (oa ms&&o7 ms)=true then some (n,ms) else none
 |_,_=>none
def gn(j:LI):Option (LI×aF):=match jL j with
 |some (l::r)=>zY (fq (codes "locker") l) (gO r)
 |_=>none
def Cf:zY n none=none:=by cases n <;> rfl
def Cg:zY none ks=none:=by cases ks <;> rfl
def tp(CL CK:Addr)(l:u4):jt:=(l.a,.ins CL l.dx (FA l))::(l.nm,.lst (iv l.name))::(l.kl,.lst (l.kinds.map λk=>V.ref k.a))::zT CK l.kinds
inductive UB(K:FR)(CL CK CN:Addr)(vs:au)(H:Hp)(Q:VK)(E:XK):Prop
 |mk (ap:Addr) (bG:LI) (_:vs=[.ref ap]) (_:ä ap (iv bG)) (_:bG.length<=66000) (_:(∀x,gn bG=some x->∀H' l,ai H H'->l.name=x.1->l.kinds.map aA.m=x.2->aV H' Ãs->l.kinds.length<=66000->Q (.ref l.a) H')) (_:(gn bG=none->No E CN H))
section
variable{P:Pg}{w:Wd}{K:FR}{mg:MG}{base:Heap}{CK CL CN N:Addr}
def Cj:bO ["text","lines","name","kinds","line"] ["text"] (aZ Km):=cu
def ahs{f:Addr}{fd:FD}(F:bu K "read_locker" "read_locker" Km f fd)(X:œ "NoLocker" CN N)(dW:Ç 2 "whole_lines" ["text"] (LY K)) (dN:Ç 4 "name_behind" ["title","line"] (LX K)) (dK:Ą Ď 5 "read_kind" ["line"] (Mg K CK CN))(dO:Ç 2 afK ["kinds"] (FK CK oa)) (dD:Ç 2 "are_different" ["kinds"] (FK CK o7)) (dL:ă "Locker" CL ["name","kinds"]):
  a9 P w K mg base Ď 6 f fd ["text"] (UB K CL CK CN):=by
 let(fK,fdK,GK,mK,kK,bK):=dK;refine F.qk Cj Â;let(ap,z,rfl,hP,hl,k1,k2):=h;refine⟨_,aB (cq 1 Cj.nd (bx dW ó))
  (aB (dj (PW.pt (pw_or (nI (qX ã)) (pw_or1 (cI ϰ ã Ī (bV _))))) Ú dY)
  (aB (cq 2 Cj.nd (bx dN (ae D7 ř)))
  (aB (Sj (i:=3) (own:=[("line",4)]) (g:=p7 4) (tt:=Bw) (te:=ie (Mg K CK CN) [] E (bq Ãy dQ)) rfl wb Cj.nd rfl rfl Ô (eV (xK xM ã (xJ bp) xI)) Ë
   (λ_ _ _ _ _=>dw 4 Cj.nd) Ö (λ_ _ _ _ _=>mq GK hr rfl mK kK bK .nil rD Ϩ))
  (aB (dj (PW.pt (pw_or Ær (pw_or (pY (jD (bx dO ĵ))) (pw_or1 (pY (jD (bx dD ĵ)))))))
   (Ú) dY)
  (aD (a7 (qy dL hr (ae ç ĵ)))))))),?_⟩
 apply(_,Á,ap,z,Á,hP,by omega,λH1 v s1 M=>?_);let Mn:∀L,jL z=some L->L.length<=66000/\∀w∈L,w.length<=100000:=λL e=>by
  delta jL at e;split at e
  .let e:=aI e;subst e;apply(?_,λw hw=>?_)
   .rw[YV];let:=Fh 10 z;omega
   .let:=x9 10 z w (A1 _ hw);omega
  .symm
 let el:gn z=match jL z with
   |some (l::r)=>zY (fq (codes "locker") l) (gO r)
   |_=>none:=rfl
 cases ew:jL z with
 |none=>
  rw[ew] at M el;let M:=M;subst M;exact(_,Á,_,Á,lx (gM ((k2 el).go s1)))
 |some L=>
  let(hL1,mV):=Mn L ew;rw[ew] at M el;let(p,qs,rfl,qS,hp,qC,fr):=M;apply(_,Á,_,Á,nV ⟨_,Á,dv _,λI n1=>?_⟩);let W:=aK (o:=.lst []) n1;let u0:=W _ _ hp;let Mo:=qC.same W;let fg:=s1.trans W;let E1:(upd H1 I â) I=some â:=ao;generalize upd H1 I â=H2 at W u0 Mo fg E1;refine⟨p,I,_,Á,Á,aa.of u0,aa.of E1,_,Á,ba Î Î⟩
  .let hq:qs=[]:=by
    symm
   subst hq;cases Mo;exact gM ((k2 el).go fg)
  .cases Mo with
   |nil=>symm
   | @cons q l qs r hq vy=>
    let vy:eG H2 qs r:=vy;let el:gn z=zY (fq (codes "locker") l) (gO r):=el;let Cb:r.length<=66000:=by simp only[dc] at hL1;omega
    let wM:=vy.len;apply⟨_,Á,p,_,0,V.ref q,Á,Á,aa.of u0,fU (j:=0) Á,"locker",q,l,Á,by decide,aa.of hq,mV l Ä,λH3 vn s3 J=>?_⟩;let qz:=fg.trans s3;apply(_,Á,_,Á,p,_,Á,aa.of (s3 _ _ u0),λc hc=>?_);rw[show oS ((q::qs).map V.ref) (some 1) none=qs.map V.ref from(Cd _ (i:=1) Ä).trans rfl];let Y:=aK (o:=.lst Än) hc;let jo:(upd H3 c Ē) c=some Ē:=ao;generalize upd H3 c Ē=H4 at Y jo;let oX:=qz.trans Y;let ahu:=vy.same (s3.trans Y);refine⟨c,Á,⟨_,aa.of jo⟩,λD hD=>gy (K:=K) (a:=c) (xs:=qs.map V.ref) (ck H4 D λi y ns=>∃b:aA,(∀l,r[i]? =some l->iQ l=some b.m)/\y=.ref b.a/\ns=j5 CK b) ĉ
     (λi H5 _ f=>aa.of (f.same _ _ jo)) (λi y H5 hi f=>?_) (λH5 f=>?_)⟩
    .rw[bz] at hi;cases eq:qs[i]? with
     |none=>symm
     |some qi=>
      rw[eq] at hi;let ey:=aI hi;subst ey;let eA:=(bH.mp eq).1;let(q',_,G,h'):=ahu.at (j:=i) Å;rw[bz,eq] at G;let G:=aI G;injection G with G;subst G;let rj:r[i]? =some (r.getD i []):=by
       symm
      let wN:=bI rj;apply(Á,eM ⟨_,Á,qi,r.getD i [],Á,aa.of (f.same _ _ h'),mV _ (aP _ wN),λm em H6 kd S ek hkd qf=>?_,λen=>?_⟩)
      .apply f.step hD Å S ⟨kd,λl hl=>?_,Á,Á⟩ hkd λx hx e=>f.has (by grind);symm
      .exact(k2 (by rw[el,UA wN en,Cf])).go (oX.trans f.same)
    .let(ys,s5,Mp,Ck,fl):=f.end;rw[az] at Ck;let(ks,I,r1,l1):=wJ (v:=λb:aA=>V.ref b.a) (nd:=j5 CK) (R:=λi b=>∀l,r[i]? =some l->iQ l=some b.m) fl;subst I;rw[az] at Ck;let Mq:gO r=some Í:=ahr É λi l m h1 h2=>by
      grind
     rw[Mq] at el;let wI:=oX.trans s5;let Mr:=ahm l1;cases en:fq (codes "locker") l with
     |none=>
      rw[en,Cg] at el;rw[en] at J;let J:=J;subst J;exact(_,Á,_,Á,lx (gM ((k2 el).go wI)))
     |some nm=>
      rw[en] at J el;let(an,rfl,FO,ml):=J;let el:gn z=if (oa Í &&o7 Í)=true then some (nm,ks.map aA.m) else none:=el;apply(_,Á,_,Á,nV ⟨_,Á,D,ks,Á,Mp,Mr,by omega,λH6 S=>⟨_,rfl,ba (λO=>?_) (λO=>?_)⟩⟩)
      .simp at O;rw[O,lI,ah Ù] at el;exact gM ((k2 el).go (wI.trans S))
      .simp at O;refine⟨_,Á,D,ks,Á,S _ _ Mp,Mr.same S,by omega,λH7 s7=>⟨_,rfl,ba ě ě⟩⟩
       .simp at hd;rw[hd,yQ,ah Ù] at el;exact gM ((k2 el).go ((wI.trans S).trans s7))
       .simp at hd;rw[O,hd,PR,af rfl] at el;let U:=S.trans s7;apply(_,Á,_,Á,wD Á λx dx H8 hx iW aU e8 Z=>?_);refine k1 _ el H8 ⟨x,dx,an,D,nm,ks⟩ ((wI.trans U).trans Z) Á Á Ào É;simp only[tp,a0] at hy;rcases hy with rfl|rfl|rfl|hy
        .exact e8
        .exact Z _ _ (U _ _ (s5 _ _ (Y _ _ ml)))
        .exact Z _ _ (U _ _ Mp)
        .exact(Mr.same (U.trans Z)) y hy
end
end HD
end
section
namespace HD
open PySem PySem.Spec PyProof.Rows L2
def getD_map{α β:Type}{f:α->β}{l:List α}{i:Nat}{a:α}{d:β}(h:l[i]? =some a):(l.map f).getD i d=f a:=by
 symm
def getD_at{α:Type}{l:List α}{i:Nat}{a d:α}(h:l[i]? =some a):l.getD i d=a:=by
 symm
def iX(look:LI):Prop:=look.length=16/\∀x∈look,0<=x/\x<16
def getD_mem{l:LI}{i:Nat}(h:i<l.length):l.getD i 0∈l:=by
 symm
def ahw{signs part l:LI}(h:jJ signs part=some l):l.length=part.length/\∀x∈l,0<=x/\x<signs.length:=by
 delta jJ at h;grind
def ahx(h:iQ line=some m):m.shape<3/\iX m.look:=by
 delta iQ o5 at h;split at h
 .cases h
 .rename_i r M;by_cases G:(JM.aJ 32 line).length=(if r=2 then 4 else 5)
  .rw[af G] at h;generalize l5 r _=j at h;generalize rM r _=z at h;generalize iG _ 8=F at h;cases e4:bj ÿ ((JM.aJ 32 line).getD ((JM.aJ 32 line).length-2) []) with
   |none=>rw[e4,FF] at h;cases h
   |some sh=>
    rw[e4] at h;cases e5:iw ((JM.aJ 32 line).getD ((JM.aJ 32 line).length-1) []) with
    |none=>rw[e5,FG] at h;cases h
    |some lk=>
     rw[e5] at h
     match j,z,F,h with
     |some n,some w,some c,h=>
      let:=aI h;subst this;apply(zU e4,?_);delta iw at e5;split at e5
      .rename_i J;let(I,p2):=ahw e5;exact(I.trans J,p2)
      .cases e5
  .symm
end HD
end
section
namespace HD
open PySem JM
def Cm{p:Int->Bool}(h:((List.range 256).all λn=>p ((n:Nat):Int))=true)(j:0<=x/\x<=255):p x=true:=by
 let:=kU.mp h x.toNat (AV.mpr Å);grind
def eqB(j:aY a)(m:aY ţ)(e:(codes x).map B=Flags.ascii s):(a.map B=Flags.ascii s)↔a=codes x:=by
 rw[<-e];exact(λz=>wm j m z,λz=>by rw[z])
def rQ(h:(codes x).all (λx=>decide (0<=x)&&decide (x<=255))=true):aY ţ:=Fg h
def hexVal(h:0<=x/\x<=255):Flags.hexValue (B x)=if ly.contains x=true then some (ly.idxOf x) else none:=by
 let:=Cm (p:=λx=>decide (Flags.hexValue (B x)=if ly.contains x=true then some (ly.idxOf x) else none)) Ê h;symm
def ahy(h:0<=x/\x<=255):Flags.isSign (B x)=(codes zS).contains x:=by
 let:=Cm (p:=λx=>decide (Flags.isSign (B x)=(codes zS).contains x)) Ê h;symm
theorem ahz{l:LI}:aY l->(l.map B).mapM Flags.hexValue=if l.all Ão=true then some (l.map λb=>ly.idxOf b) else none:=by
 induction l with
 |nil=>exact @λ_=>Á
 |cons x r I=>
  intro h;let I:=I λz m=>h z (aP _ m);rw[aX,HU,hexVal (h x fG),I,so];by_cases j:ly.contains x=true
  .rw[af j,j,ma];by_cases h2:r.all Ão=true
   .rw[af h2,af h2];rfl
   .rw[ah h2,ah h2];rfl
  .rw[ah j];let j:ly.contains x=false:=by simpa using j
   rw[j,lI,ah eC];rfl
def eU(l:LI):Nat:=Flags.lookOf λi=>(l.getD i 0).toNat
def UC{l:LI}(h:aY l):Flags.lookIn ĸ=(iw l).map eU:=by
 delta Flags.lookIn iw;rw[az];by_cases e:l.length=16
 .rw[ah (λq=>q e),af e,ahz h];delta jJ;by_cases h2:l.all Ão=true
  .rw[af h2,af h2];apply cJ (λf=>some (Flags.lookOf f)) (funext λi=>?_);rw[iC,iC,bz,bz];cases l[i]? with
   |none=>rfl
   |some x=>rfl
  .rw[ah h2,ah h2];rfl
 .rw[af e,ah e];rfl
def FQ(h:aY l):Flags.isName ĸ=iP l:=by
 delta Flags.isName iP;rw[az,sr,show l.all (Flags.isSign∘B)=l.all λb=>(codes zS).contains b from J9 h λx j=>ahy j]
theorem digit_eq(h:aY l)(m:Nat):Flags.digitOf m ĸ=(iG l (m:Int)).map Int.toNat:=by
 delta Flags.digitOf iG
 match l,h with
 |[],_=>rfl
 |[d],h=>
  let hd:=h d fG;show(if 49<=(B d).toNat/\(B d).toNat<=48+m then some ((B d).toNat-48) else none)=Option.map Int.toNat (if d<49\/d>48+(m:Int) then none else some (d-48));rw[Ff hd];by_cases c:d<49\/d>48+(m:Int)
  .rw[af c,ah Å];rfl
  .rw[ah c,af Å];congr 1;omega
 |a::b::r,_=>rfl
def UD(a b c w:LI):bj [a,b,c] w=if a=w then some 0 else if b=w then some 1 else if c=w then some 2 else none:=by
 delta bj;grind
def ahA(h:aY w):Flags.shapeOf ĩ=bj ÿ w:=by
 delta Flags.shapeOf;show _=bj [codes "square",codes "tails",codes "long"] w;rw[UD];let j:=eqB (a:=w) (x:="square") (s:="square") h Äm Ê;let m:=eqB (a:=w) (x:="tails") (s:="tails") h Äm Ê;let z:=eqB (a:=w) (x:="long") (s:="long") h Äm Ê;grind
def qD(m:g8):Flags.Role:=if m.role=0 then .sign (m.name.map B) else if m.role=1 then .same m.j4.toNat else .answer
def bY(m:g8):Flags.Kind:=⟨qD m,m.copies.toNat,m.shape,eU m.look⟩
def Ms(hc:aY c)(hs:aY s)(j:aY l)(R:Flags.Role)(m:∀a b d,qD ⟨r,n,wh,a,b,d⟩=R):
  Flags.kindOf R Æf (s.map B) ĸ=(rN r (some n) (some wh) (iG c 8) (bj ÿ s) (iw l)).map bY:=by
 delta Flags.kindOf;rw[show Flags.digitOf 8 Æf=(iG c 8).map Int.toNat from digit_eq hc 8,ahA hs,UC j];cases e1:iG c 8 with
 |none=>rfl
 |some a=>
  cases e2:bj ÿ s with
  |none=>rfl
  |some b=>
   cases e3:iw l with
   |none=>rfl
   |some d=>
    show some _=some (bY ⟨r,n,wh,a,b,d⟩);delta bY;symm
def ahB{line:LI}(h:aY line):Flags.kindIn (line.map B)=(iQ line).map bY:=by
 delta Flags.kindIn iQ;rw[show Flags.cutAt 32 (line.map B)=(aJ 32 line).map ê from x8 32 Ù line h];let I:=qu 32 (l:=line) h;generalize aJ 32 line=ws at I;let Z:∀w:LI,bj ϗ w=if codes "sign"=w then some 0 else if codes "same"=w then some 1 else if codes "answer"=w then some 2 else none:=λw=>UD _ _ _ w;let d1:¬codes "sign"=codes "same":=by decide+kernel
 let d2:¬codes "sign"=codes "answer":=by decide+kernel
 let d3:¬codes "same"=codes "answer":=by decide+kernel
 let short:∀v:c7,v.length≠4->v.length≠5->o5 v=none:=λv h4 h5=>by
  delta o5;split
  .rfl
  .rename_i r _;rw[ah];by_cases z:r=2
   .rw[af z];exact h4
   .rw[ah z];exact h5
 match ws,I with
 |[],_=>rw[short [] Ù Ù];rfl
 |[a],_=>rw[short [a] Ä Ä];rfl
 |[a,b],_=>rw[short [a,b] Ä Ä];rfl
 |[a,b,c],_=>rw[short [a,b,c] Ä Ä];rfl
 |[a,c,s,l],I=>
  let M:=I a Ä;let W:=eqB (a:=a) (x:="answer") (s:="answer") M Äm Ê;show(if a.map B=Flags.ascii "answer" then Flags.kindOf .answer Æf (s.map B) ĸ else none)=_;let S:o5 [a,c,s,l]=if codes "answer"=a then rN 2 Ãg (some 0) (iG c 8) (bj ÿ s) (iw l) else none:=by
   delta o5;rw[show([a,c,s,l]:c7).getD 0 []=a from rfl,Z a];by_cases m:codes "sign"=a
   .rw[af m,ah (λz=>d2 (m.trans z.symm))];rfl
   .rw[ah m];by_cases F:codes "same"=a
    .rw[af F,ah (λz=>d3 (F.trans z.symm))];rfl
    .rw[ah F];by_cases G:codes "answer"=a
     .rw[af G,af G];rfl
     .rw[ah G,ah G]
  rw[S];by_cases G:a=codes "answer"
  .rw[af (W.mpr G),af G.symm];exact Ms (I c Ä) (I s Ä) (I l Ä) .answer λ_ _ _=>Á
  .rw[ah (λz=>G (W.mp z)),ah (λz:codes "answer"=a=>G z.symm)];rfl
 |[a,n,c,s,l],I=>
  let M:=I a Ä;let Y:=I n Ä;let U:=eqB (a:=a) (x:="sign") (s:="sign") M Äm Ê;let O:=eqB (a:=a) (x:="same") (s:="same") M Äm Ê;show(if a.map B=Flags.ascii "sign"/\Flags.isName Èp=true then Flags.kindOf (.sign Èp) Æf (s.map B) ĸ else if a.map B=Flags.ascii "same" then (Flags.digitOf 4 Èp).bind (λ(j:Nat)=>Flags.kindOf (.same j) Æf (s.map B) ĸ) else none)=_;let S:o5 [a,n,c,s,l]=if codes "sign"=a then rN 0 (l5 0 n) (some 0) (iG c 8) (bj ÿ s) (iw l) else if codes "same"=a then rN 1 Ãg (iG n 4) (iG c 8) (bj ÿ s) (iw l) else none:=by
   delta o5;rw[show([a,n,c,s,l]:c7).getD 0 []=a from rfl,Z a];by_cases m:codes "sign"=a
   .rw[af m,af m];rfl
   .rw[ah m,ah m];by_cases F:codes "same"=a
    .rw[af F,af F];rfl
    .rw[ah F,ah F];by_cases G:codes "answer"=a
     .rw[af G];rfl
     .rw[ah G]
  rw[S,FQ Y];by_cases m:a=codes "sign"
  .rw[af m.symm];by_cases J:iP n=true
   .rw[af ⟨U.mpr m,J⟩,show l5 0 n=some n by delta l5;rw[af rfl,af J]];exact Ms (I c Ä) (I s Ä) (I l Ä) (.sign Èp) λ_ _ _=>Á
   .rw[ah (λz=>J z.2),ah (λz=>d1 (m.symm.trans (O.mp z))),show l5 0 n=none by delta l5;rw[af rfl,ah J],FC];rfl
  .rw[ah (λz:_/\_=>m (U.mp z.1)),ah (λz:codes "sign"=a=>m z.symm)];by_cases F:a=codes "same"
   .rw[af (O.mpr F),af F.symm,show Flags.digitOf 4 Èp=(iG n 4).map Int.toNat from digit_eq Y 4];cases e:iG n 4 with
    |none=>rw[FE];rfl
    |some j=>
     exact Ms (I c Ä) (I s Ä) (I l Ä) (.same j.toNat) λ_ _ _=>Á
   .rw[ah (λz=>F (O.mp z)),ah (λz:codes "same"=a=>F z.symm)];rfl
 |a::b::c::d::e::g::r,_=>rw[short _ Ä Ä];rfl
def og:LN->Nat
 |[]=>0
 |d::r=>d%16+16*og r
theorem ahC(x:Nat):∀l:LN,og (l++[x])=og l+16^l.length*(x%16):=by
 intro l;induction l with
 |nil=>
  simp[og]
 |cons d r I=>
  show d%16+16*og (r++[x])=d%16+16*og r+16^(r.length+1)*(x%16);rw[I,Nat.mul_add,P3,<-Nat.mul_assoc,Nat.mul_comm 16 (16^r.length)];omega
theorem ahD(f:Nat->Nat):∀n,((List.range n).map λi=>f i%16*16^i).sum=og ((List.range n).map f):=by
 intro n;induction n with
 |zero=>exact Á
 |succ n I=>
  rw[HZ,bZ,bZ,List.sum_append,I];show _+(f n%16*16^n+0)=og (_++[f n]);rw[ahC,az,ib,Nat.mul_comm (16^n)];omega
theorem UE:∀(i:Nat)(l:LN),og l/16^i%16=l.getD i 0%16
 |i,[]=>by simp[og]
 |0,d::r=>by
  show(d%16+16*og r)/16^0%16=d%16;rw[Nat.pow_zero,Nat.div_one];omega
 |i+1,d::r=>by
  show(d%16+16*og r)/16^(i+1)%16=r.getD i 0%16;rw[Nat.pow_succ',<-Nat.div_div_eq_div_mul,show(d%16+16*og r)/16=og r by omega];exact UE i r
def FS(f:Nat->Nat)(h:i<16):Flags.cell (Flags.lookOf f) i=f i%16:=by
 delta Flags.cell Flags.lookOf;rw[ahD,UE,iC,bz,P4 h];rfl
def Co(h:iX l)(hi:i<16):Flags.cell (eU l) i=(l.getD i 0).toNat:=by
 delta eU;rw[FS _ hi];let(j,m):=h.2 _ (getD_mem (l:=l) (i:=i) (by rw[h.1];exact hi));omega
def ahE{a b:LI}(j:iX a)(m:iX b)(e:eU a=eU b):a=b:=by
 apply xt;intro i;by_cases hi:i<16
 .let z:=Co j hi;let h2:=Co m hi;rw[e,h2] at z;let ga:=j.2 _ (getD_mem (l:=a) (i:=i) (by rw[j.1];exact hi));let G:=m.2 _ (getD_mem (l:=b) (i:=i) (by rw[m.1];exact hi));let:a.getD i 0=b.getD i 0:=by omega
  rw[iC,iC,cY (by rw[j.1];exact hi),cY (by rw[m.1];exact hi)] at this;rw[cY (by rw[j.1];exact hi),cY (by rw[m.1];exact hi)];exact cJ some this
 .rw[xp (by rw[j.1];omega),xp (by rw[m.1];omega)]
structure Kv(m:g8):Prop where
 role:m.role<3
 UF:m.role≠1->m.j4=0
 Cp:m.role=1->1<=m.j4/\m.j4<=4
 nm:aY m.name
 lk:iX m.look
 sh:m.shape<3
 cp:1<=m.copies/\m.copies<=8
def UG(h:iG w most=some d):1<=d/\d<=most:=by
 delta iG at h;grind
def UH{line:LI}(O:aY line){m:g8}(h:iQ line=some m):Kv m:=by
 let(J,S):=ahx h;delta iQ o5 at h;let G:=qu 32 (l:=line) O;generalize aJ 32 line=ws at h G;split at h
 .cases h
 .rename_i r M;let hr:r<3:=zU M;by_cases I:ws.length=(if r=2 then 4 else 5)
  .rw[af I] at h;let j:aY ŏ:=by
    rw[iC];cases e:ws[1]? with
    |none=>exact λx F=>absurd F Ä
    |some w=>exact G w (bI e)
   cases e1:l5 r ŏ with
   |none=>rw[e1,FC] at h;cases h
   |some n=>
    cases e2:rM r ŏ with
    |none=>rw[e2,FE] at h;cases h
    |some W=>
     cases e3:iG (ws.getD (ws.length-3) []) 8 with
     |none=>rw[e3,Mf] at h;cases h
     |some c=>
      cases e4:bj ÿ (ws.getD (ws.length-2) []) with
      |none=>rw[e4,FF] at h;cases h
      |some sh=>
       cases e5:iw (ws.getD (ws.length-1) []) with
       |none=>rw[e5,FG] at h;cases h
       |some lk=>
        rw[e1,e2,e3,e4,e5] at h;let:=aI h;subst this;apply(hr,λz=>?_,λz=>?_,?_,S,J,UG e3)
        .delta rM at e2;rw[ah z] at e2;exact(aI e2).symm
        .delta rM at e2;rw[af z] at e2;exact UG e2
        .delta l5 at e1;split at e1
         .split at e1
          .rw[<-aI e1];exact j
          .cases e1
         .rw[<-aI e1];exact λx F=>absurd F Ä
  .rw[ah I] at h;cases h
theorem Mt{r:c7}:∀{ms:aF},(∀l∈r,aY l)->gO r=some ms->∀m∈ms,Kv m:=by
 induction r with
 |nil=>
  intro ms _ h m j;let:=aI h;subst this;exact absurd j Ä
 |cons l r I=>
  intro ms F h m j;delta gO at h;cases e1:iQ l with
  |none=>rw[e1] at h;cases gO r <;> cases h
  |some k=>
   rw[e1] at h;cases e2:gO r with
   |none=>rw[e2] at h;cases h
   |some ks=>
    rw[e2] at h;let:=aI h;subst this;rcases a0.mp j with rfl|j
    .exact UH (F l Ä) e1
    .exact I (λz G=>F z (aP _ G)) e2 m j
def tq(kp:Kv p)(kx:Kv x)(h:x.role=0):iR p x=true↔p.role=0:=by
 delta iR;by_cases c:p.role=0/\x.role=0
 .symm
 .rw[ah c,HT.uL];symm
def wO(kp:Kv p)(kx:Kv x)(h:x.role=1):iR p x=true↔p.role=0\/(p.role=1/\p.j4<x.j4):=by
 delta iR;rw[ah (λz=>by omega),HT.uL];by_cases c:((p.role:Nat):Int)=((x.role:Nat):Int)
 .rw[af c,HT.uL];by_cases d:p.j4=x.j4
  .rw[af d];constructor
   .intro z;cases z
   .omega
  .grind
 .grind
def FT{p x:g8}(kp:Kv p)(kx:Kv x)(h:x.role=2):iR p x=true↔ ¬p.role=2:=by
 delta iR;let j:=kx.UF Å;rw[ah (λz=>by omega),HT.uL];by_cases c:((p.role:Nat):Int)=((x.role:Nat):Int)
 .let h2:=kp.UF Å;rw[af c,HT.uL,af (by rw[j,h2])];constructor
  .intro z;cases z
  .intro z;omega
 .rw[ah c,lL];let:=kp.role;omega
def ahG{a b c:g8}(F:Kv a)(z:Kv b)(kc:Kv c)(j:iR a b=true)(h2:iR b c=true):iR a c=true:=by
 let M:=z.role;let hc:=kc.role;let G:b.role=0\/b.role=1\/b.role=2:=by omega
 let m:c.role=0\/c.role=1\/c.role=2:=by omega
 rcases m with m|m|m
 .rw[tq z kc m] at h2;rw[tq F z h2] at j;rw[tq F kc m];exact j
 .rw[wO z kc m] at h2;rw[wO F kc m];rcases h2 with h2|⟨h2,I⟩
  .rw[tq F z h2] at j;exact .inl j
  .rw[wO F z h2] at j;rcases j with j|⟨j,J⟩
   .exact .inl j
   .exact .inr ⟨j,by omega⟩
 .rw[FT z kc m] at h2;rw[FT F kc m];rcases G with G|G|G
  .rw[tq F z G] at j;omega
  .rw[wO F z G] at j;omega
  .exact absurd G h2
theorem Mu:∀{ms:aF},(∀m∈ms,Kv m)->(((ms.zip (ms.drop 1)).all λp=>iR p.1 p.2)=true↔ms.Pairwise λp x=>iR p x=true)
 |[],_=>by simp
 |[a],_=>by simp
 |a::b::r,h=>by
  let I:=Mu (ms:=b::r) λm G=>h m (aP _ G);let F:(a::b::r).zip ((a::b::r).drop 1)=(a,b)::(b::r).zip ((b::r).drop 1):=rfl;rw[F,so,iU,I,Ia (a:=a)];constructor
  .rintro⟨j,h2⟩;apply(λy z=>?_,h2);rcases a0.mp z with rfl|z
   .exact j
   .exact ahG (h a Ä) (h b Ä) (h y (by simp[z])) j ((Ia.mp h2).1 y z)
  .rintro⟨j,h2⟩;exact(j b Ä,h2)
theorem pw_place{α:Type}{R:α->α->Prop}{l:List α}:l.Pairwise R↔ ∀(i:Nat)x,l[i]? =some x->∀p∈l.take i,R p x:=by
 induction l with
 |nil=>
  simp
 |cons a r I=>
  rw[Ia,I];constructor
  .rintro⟨z,h2⟩ i x m p j;cases i with
   |zero=>simp at j
   |succ i=>
    rw[P0] at j;rcases a0.mp j with rfl|j
    .exact z x (bI m)
    .exact h2 i x m p j
  .intro h;apply(λx m=>?_,λi x m p j=>h (i+1) x m p (by rw[P0];exact aP _ j));let(i,hi,e):=pQ m;exact h (i+1) x (by show r[i]? =some x;rw[cY hi,e]) a (by rw[P0];simp)
def Mv{j:List PyData}:o6 j=false↔j.Pairwise λd e=>PyData.eqv d e=false:=by
 rw[pw_place];delta o6;rw[List.any_eq_false];constructor
 .intro h i x m p z;let hi:=(bH.mp m).1;let:=h i (AV.mpr hi);delta yg at this;symm
 .intro h i hi;let hi:=AV.mp hi;obtain⟨x,m⟩:∃x,j[i]? =some x:=⟨_,cY hi⟩;let:=h i x m;delta yg;symm
def Mw(a b:g8):PyData.eqv (wK a) (wK b)=decide (a.name=b.name):=L2.xX _ _
def UI(a b:g8):PyData.eqv (rO a) (rO b)=(decide (a.shape=b.shape)&&decide (a.look=b.look)):=by
 delta rO;simp only[PyData.eqv,PyData.eqvAll,L2.xX,P5];grind
def UJ(p x:g8):Prop:=p.role=0/\x.role=0/\p.name=x.name
def FU(p x:g8):Prop:=p.shape=x.shape/\p.look=x.look
def yi(ps:aF)(x:g8):Prop:=(∀p∈ps,iR p x=true/\¬UJ p x/\¬FU p x)/\(x.role=0->ps.length<48)
def four{A B C D:Bool}{w x y z:Nat}:(if A=true then some w else if B=true then some x else if C=true then some y else if D=true then some z else none)=none↔A=false/\B=false/\C=false/\D=false:=by
 grind
def yj(m:g8):(bY m).isSign=decide (m.role=0):=by
 delta bY Flags.Kind.isSign qD;grind
def yk(h:m.role=0):(bY m).role=.sign (m.name.map B):=by show qD m=_;delta qD;rw[af h]
def zZ(h:m.role=1):(bY m).role=.same m.j4.toNat:=by show qD m=_;delta qD;rw[ah Å,af h]
def FV(k:Kv m)(h:m.role=2):(bY m).role=.answer:=by show qD m=_;delta qD;rw[ah Å,ah Å]
def z4{ps:aF}{f:Flags.Kind->Bool}:((ps.map bY).any f=false)↔ ∀p∈ps,f (bY p)=false:=by
 simp
def z5(kp:Kv p)(kx:Kv x):((bY p).shape==(bY x).shape&&(bY p).look==(bY x).look)=false↔ ¬FU p x:=by
 show(p.shape==x.shape&&eU p.look==eU x.look)=false↔_;delta FU;by_cases h:p.shape=x.shape
 .by_cases h2:p.look=x.look
  .symm
  .let j:=λz=>h2 (ahE kp.lk kx.lk z);symm
 .simp[h]
def UK{ps:aF}{x:g8}(kp:∀p∈ps,Kv p)(kx:Kv x):Flags.wrongBehind (ps.map bY) (bY x)=none↔yi ps x:=by
 delta Flags.wrongBehind;rw[four,z4];let hr:=kx.role;let j:x.role=0\/x.role=1\/x.role=2:=by omega
 rcases j with j|j|j
 .rw[yk j,yj,z4,z4,az,eP j,ma];delta yi;constructor
  .rintro⟨m,h2,I,G⟩;apply(λp hp=>⟨?_,λz=>?_,(z5 Ň kx).mp (G p hp)⟩,λ_=>?_)
   .rw[tq Ň kx j];let:=m p hp;rw[yj] at this;symm
   .let:=h2 p hp;rw[yk z.1,z.2.2] at this;symm
   .let:¬Flags.SIGNS<=ps.length:=by simpa using I
    let e:Flags.SIGNS=48:=rfl;omega
  .rintro⟨m,h2⟩;apply(λp hp=>?_,λp hp=>?_,?_,λp hp=>(z5 Ň kx).mpr (m p hp).2.2)
   .let:=(tq Ň kx j).mp (m p hp).1;rw[yj,this];rfl
   .let J:=(tq Ň kx j).mp (m p hp).1;rw[yk J];let M:=(m p hp).2.1;rw[xn];intro z;injection z with z;exact M ⟨J,j,wm (kp p hp).nm kx.nm z⟩
   .let:=h2 j;let e:Flags.SIGNS=48:=rfl;symm
 .rw[zZ j,yj,z4,z4,f7 Å,lI];delta yi;let O:=kx.Cp j;constructor
  .rintro⟨m,h2,I,G⟩;apply(λp hp=>⟨?_,λz=>?_,(z5 Ň kx).mp (G p hp)⟩,λz=>?_)
   .rw[wO Ň kx j];let Ih:=(kp p hp).role;let F:p.role=0\/p.role=1\/p.role=2:=by omega
    rcases F with F|F|F
    .exact .inl F
    .apply .inr ⟨F,?_⟩;let:=h2 p hp;rw[zZ F] at this;let:=aqn this;let:=(kp p hp).Cp F;omega
    .let:=m p hp;rw[FV Ň F] at this;simp at this
   .let:=z.2.1;omega
   .omega
  .rintro⟨m,h2⟩;apply(λp hp=>?_,λp hp=>?_,Á,λp hp=>(z5 Ň kx).mpr (m p hp).2.2)
   .rcases(wO Ň kx j).mp (m p hp).1 with z|z
    .rw[yk z];rfl
    .rw[zZ z.1];rfl
   .rcases(wO Ň kx j).mp (m p hp).1 with z|z
    .rw[yk z]
    .rw[zZ z.1];let:=(kp p hp).Cp z.1;exact f7 Å
 .rw[FV kx j,yj,z4,f7 (by omega:¬x.role=0),lI];delta yi;constructor
  .rintro⟨m,h2,I,G⟩;apply(λp hp=>⟨?_,λz=>?_,(z5 Ň kx).mp (G p hp)⟩,λz=>?_)
   .rw[FT Ň kx j];intro F;let:=m p hp;rw[FV Ň F] at this;simp at this
   .let:=z.2.1;omega
   .omega
  .rintro⟨m,h2⟩;apply(λp hp=>?_,Á,Á,λp hp=>(z5 Ň kx).mpr (m p hp).2.2);let z:=(FT Ň kx j).mp (m p hp).1;let Ih:=(kp p hp).role;let F:p.role=0\/p.role=1:=by omega
   rcases F with F|F
   .rw[yk F];rfl
   .rw[zZ F];rfl
def yl:aF->aF->Prop
 |_,[]=>True
 |past,x::r=>yi past x/\yl (past++[x]) r
def ym(ms:aF):Prop:=∃m∈ms,m.role=0
def UL:((ms.map bY).all λ(k:Flags.Kind)=>!k.isSign)=true↔ ¬ym ms:=by
 rw[sr,kU];delta ym;constructor
 .rintro h ⟨m,j,e⟩;let:=h m j;simp only[aqt,yj,e] at this;symm
 .intro h m j;let:¬m.role=0:=λe=>h ⟨m,j,e⟩;simp only[aqt,yj];symm
def ahH(j:aF)(ls:c7)(z:LI):Prop:=z=[]/\∃ms,gO ls=some ms/\yl j ms/\ym (j++ms)
def ahI(ls:c7):∀(z:LI)(i:Nat)(past:aF),(∀l∈ls,aY l)->(∀p∈past,Kv p)->
  (∀ms,z=[]->gO ls=some ms->yl past ms->ym (past++ms)->Flags.judgeLines i ņ ((ls++[z]).map ê)=.ok ((past++ms).map bY))/\(¬ahH past ls z->∃e,Flags.judgeLines i ņ ((ls++[z]).map ê)=.error e):=by
 induction ls with
 |nil=>
  intro z i past _ kp;let e:Flags.judgeLines i ņ (([]++[z]:c7).map ê)=if z.map B≠[]\/((past.map bY).all λ(k:Flags.Kind)=>!k.isSign)=true then .error (1,i) else .ok ņ:=rfl;rw[e];constructor
  .intro ms j hk _ hs;let:=aI hk;subst this;rw[jV] at hs⊢;rw[ah];rintro (h|h)
   .exact h (by rw[j];rfl)
   .exact(UL.mp h) hs
  .intro h;rw[af]
   .exact(_,Á)
   .by_cases j:z=[]
    .right;rw[UL];intro hs;exact h ⟨j,[],Á,trivial,by rw[jV];exact hs⟩
    .left;intro q;exact j (List.map_eq_nil_iff.mp q)
 |cons w r ih=>
  intro z i past G kp;obtain⟨y,S,Y⟩:∃y S,(r++[z]).map ê=y::S:=by
   cases r with
   |nil=>exact(_,_,Á)
   |cons a b=>exact(_,_,Á)
  let e:Flags.judgeLines i ņ (((w::r)++[z]).map ê)=match Flags.kindIn ĩ with
    |none=>.error (1,i)
    |some x=>match Flags.wrongBehind ņ x with
     |some e=>.error (e,i)
     |none=>Flags.judgeLines (i+1) (past.map bY++[x]) ((r++[z]).map ê):=by
   show Flags.judgeLines i ņ (w.map B::(r++[z]).map ê)=_;rw[Y];rfl
  rw[e,ahB (G w Ä)];let u9:=λl Z=>G l (aP _ Z);cases ek:iQ w with
  |none=>
   apply(λms _ hk=>?_,λ_=>⟨_,Á⟩);rw[UA (l:=w) Ä ek] at hk;cases hk
  |some x=>
   let kx:=UH (G w Ä) ek;let I:∀p∈past++[x],Kv p:=λp F=>by
    rcases gQ.mp F with F|F
    .exact kp p F
    .rw[nu.mp F];exact kx
   let(U,O):=ih z (i+1) (past++[x]) u9 I;rw[bZ] at U O;let W:∀ms,gO (w::r)=some ms->∃m,gO r=some m/\ms=x::m:=λms hk=>by
    delta gO at hk;rw[ek] at hk;cases e2:gO r with
    |none=>rw[e2] at hk;cases hk
    |some ks=>
     rw[e2] at hk;exact(ks,Á,(aI hk).symm)
   show(∀ms,z=[]->_->_->_->(match Flags.wrongBehind ņ (bY x) with
     |some e=>.error (e,i)
     |none=>Flags.judgeLines (i+1) (past.map bY++[bY x]) ((r++[z]).map ê):Except Flags.Fault (List Flags.Kind))=_)/\(_->∃e,(match Flags.wrongBehind ņ (bY x) with
     |some e=>.error (e,i)
     |none=>Flags.judgeLines (i+1) (past.map bY++[bY x]) ((r++[z]).map ê):Except Flags.Fault (List Flags.Kind))=_)
   constructor
   .intro ms j hk hs J;let(m,M,rfl):=W ms hk;rw[(UK kp kx).mpr hs.1];let:=U m j M hs.2 (by rw[sv];exact J);apply this.trans ?_;rw[sv];rfl
   .intro h;cases ew:Flags.wrongBehind ņ (bY x) with
    |some e=>exact(_,Á)
    |none=>
     apply O λg=>h ?_;let(j,m,M,yV,J):=g;apply(j,x::m,?_,⟨(UK kp kx).mp ew,yV⟩,by rw[sv] at J;exact J);delta gO;rw[ek,M]
theorem ahK:∀{ms j:aF},yl j ms↔ ∀(i:Nat)x,ms[i]? =some x->yi (j++ms.take i) x:=by
 intro ms;induction ms with
 |nil=>
  intro j;simp[yl]
 |cons a r I=>
  intro j;show yi j a/\yl (j++[a]) r↔_;rw[I];constructor
  .rintro⟨z,h2⟩ i x m;cases i with
   |zero=>
    let:=aI m;subst this;simpa using z
   |succ i=>
    let:=h2 i x m;rw[sv] at this;exact this
  .intro h;apply(by simpa using h 0 a rfl,λi x m=>?_);let:=h (i+1) x m;rw[sv];exact this
theorem ahL{ms:aF}:(∀m∈ms,Kv m)->(ms.Pairwise λp x=>iR p x=true)->0<(ms.filter isSign).length->∃x,ms[(ms.filter isSign).length-1]? =some x/\x.role=0:=by
 induction ms with
 |nil=>
  intro _ _ h;simp at h
 |cons a r S=>
  intro kv M h;let(U,p2):=Ia.mp M;let kr:=λm J=>kv m (aP _ J);by_cases z:a.role=0
  .let G:(a::r).filter isSign=a::r.filter isSign:=by
    rw[xu,af (show isSign a=true by delta isSign;simpa using z)]
   rw[G,dc,Nat.add_sub_cancel];by_cases O:0<(r.filter isSign).length
   .let(x,j,F):=S kr p2 O;apply(x,?_,F);obtain⟨k,I⟩:∃k,(r.filter isSign).length=k+1:=⟨(r.filter isSign).length-1,by omega⟩;rw[I] at j⊢;exact j
   .rw[show(r.filter isSign).length=0 by omega];exact(a,Á,z)
  .exfalso;let:(a::r).filter isSign=[]:=by
    rw[aqu];intro x j hs;let F:x.role=0:=by delta isSign at hs;simpa using hs
    rcases a0.mp j with rfl|j
    .exact z F
    .exact z ((tq (kv a Ä) (kr x j) F).mp (U x j))
   rw[this] at h;simp at h
def ahM{ms:aF}(kv:∀m∈ms,Kv m)(G:ms.Pairwise λp x=>iR p x=true){i:Nat}{x:g8}(z:ms[i]? =some x)(F:x.role=0):i+1<=(ms.filter isSign).length:=by
 let hi:=(bH.mp z).1;let J:∀p∈ms.take (i+1),isSign p=true:=λp j=>by
  rw[take_snoc z] at j;delta isSign;rw[lL];rcases gQ.mp j with j|j
  .exact(tq (kv p (HV j)) (kv x (bI z)) F).mp (pw_place.mp G i x z p j)
  .symm
 let I:((ms.take (i+1)).filter isSign).length=i+1:=by
  rw[List.filter_eq_self.mpr J,nr];omega
 let M:ms.filter isSign=(ms.take (i+1)).filter isSign++(ms.drop (i+1)).filter isSign:=by
  rw[<-DT,HW]
 symm
def UO{ms:aF}(kv:∀m∈ms,Kv m):(oa ms&&o7 ms)=true↔yl [] ms/\ym ms:=by
 let W:=Mu kv;rw[ahK,iU];delta oa o7;rw[iU];let tn:((!o6 ((ms.filter isSign).map wK))=true)↔ms.Pairwise λp x=>¬UJ p x:=by
  rw[show((!o6 ((ms.filter isSign).map wK))=true)↔o6 ((ms.filter isSign).map wK)=false by simp,Mv,P6,aqv];constructor
  .intro h;apply h.imp λ{a b}O z=>?_;let:=O (by delta isSign;simpa using z.1) (by delta isSign;simpa using z.2.1);rw[Mw,z.2.2] at this;simp at this
  .intro h;apply h.imp λ{a b}O M S=>?_;rw[Mw,A2];exact λz=>O ⟨by delta isSign at M;simpa using M,by delta isSign at S;simpa using S,z⟩
 let tf:((!o6 Çz)=true)↔ms.Pairwise λp x=>¬FU p x:=by
  rw[show((!o6 Çz)=true)↔o6 Çz=false by simp,Mv,P6];constructor
  .intro h;apply h.imp λ{a b}O z=>?_;rw[UI,z.1,z.2] at O;simp at O
  .intro h;apply h.imp λ{a b}O=>?_;rw[UI,Bool.and_eq_false_iff];by_cases c:a.shape=b.shape
   .right;rw[A2];exact λz=>O ⟨c,z⟩
   .left;rw[A2];exact c
 rw[tn,tf];let U:1<=(ms.filter isSign).length↔ym ms:=by
  delta ym;constructor
  .intro h;obtain⟨x,j⟩:∃x,x∈ms.filter isSign:=by
    cases e:ms.filter isSign with
    |nil=>rw[e] at h;simp at h
    |cons x r=>exact(x,by simp)
   exact(x,(kJ.mp j).1,by let:=(kJ.mp j).2;delta isSign at this;simpa using this)
  .rintro⟨m,Z,J⟩;let:m∈ms.filter isSign:=kJ.mpr ⟨Z,by delta isSign;simpa using J⟩;exact List.length_pos_of_mem this
 constructor
 .rintro⟨G,h2,Y⟩;split at G
  .cases G
  .rename_i hc;let I:=W.mp G;apply(λi x j=>⟨λp F=>?_,λJ=>?_⟩,U.mp Å)
   .rw[yT] at F;exact(pw_place.mp I i x j p F,pw_place.mp h2 i x j p F,pw_place.mp Y i x j p F)
   .let:=ahM kv I j J;rw[yT,nr];omega
 .rintro⟨G,h2⟩;let I:ms.Pairwise λp x=>iR p x=true:=pw_place.mpr λi x j p F=>((G i x j).1 p (by rw[yT];exact F)).1;apply(?_,pw_place.mpr λi x j p F=>((G i x j).1 p (by rw[yT];exact F)).2.1,pw_place.mpr λi x j p F=>((G i x j).1 p (by rw[yT];exact F)).2.2);let n1:=U.mpr h2;rw[ah,W]
  .exact I
  .rintro (z|z)
   .omega
   .let(x,j,tm):=ahL kv I Å;let:=(G _ x j).2 tm;let hl:=(bH.mp j).1;rw[yT,nr] at this;omega
def ahN(h:aY l):Flags.nameIn ĸ=(fq (codes "locker") l).map λn=>n.map B:=by
 delta Flags.nameIn fq;rw[show Flags.cutAt 32 ĸ=(aJ 32 l).map ê from x8 32 Ù l h];let j:=qu 32 (l:=l) h;generalize aJ 32 l=W at j
 match W,j with
 |[],_=>rfl
 |[a],_=>rfl
 |[a,b],j=>
  let m:=eqB (a:=a) (x:="locker") (s:="locker") (j a Ä) Äm Ê;show(if a.map B=Flags.ascii "locker"/\Flags.isName ϛ=true then some ϛ else none)=Option.map _ (if a=codes "locker"/\iP b=true then some b else none);rw[FQ (j b Ä)];by_cases c:a=codes "locker"/\iP b=true
  .rw[af c,af ⟨m.mpr c.1,c.2⟩];rfl
  .rw[ah c,ah (λz:_/\_=>c ⟨m.mp z.1,z.2⟩)];rfl
 |a::b::c::r,_=>rfl
def ahO(h:aY t):(∀x,gn t=some x->Flags.judge ϲ=.ok ⟨x.1.map B,x.2.map bY⟩)/\(gn t=none->∃e,Flags.judge ϲ=.error e):=by
 let o8:Flags.cutAt 10 ϲ=(aJ 10 t).map ê:=x8 10 Ù t h;let I:=qu 10 (l:=t) h;obtain⟨ls,z,ew⟩:∃ls z,aJ 10 t=ls++[z]:=by
  rcases qx (aJ 10 t) with e|⟨r,x,e⟩
  .exact absurd e (lZ 10 t)
  .symm
 let hw:jL t=if z=[] then some ls else none:=by
  delta jL;symm
 rw[ew] at o8 I;cases ls with
 |nil=>
  let G:gn t=none:=by
   delta gn;symm
  let F:Flags.judge ϲ=.error (1,0):=by
   delta Flags.judge;symm
  symm
 |cons w r=>
  let Y:=I w Ä;let U:∀l∈r,aY l:=λl G=>I l (by simp[G]);obtain⟨y,W,er⟩:∃y W,(r++[z]).map ê=y::W:=by
   cases r with
   |nil=>simp
   |cons a b=>simp
  let F:∀n,Flags.nameIn ĩ=some n->Flags.judge ϲ=(Flags.judgeLines 1 [] ((r++[z]).map ê)).map λ(l:List Flags.Kind)=>(⟨n,l⟩:Flags.Locker):=λn m=>by
   delta Flags.judge;symm
  let J:Flags.nameIn ĩ=none->Flags.judge ϲ=.error (1,0):=λm=>by
   delta Flags.judge;symm
  let G:gn t=if z=[] then zY (fq (codes "locker") w) (gO r) else none:=by
   delta gn;grind
  rw[G];let m:=ahN Y;let(O,S):=ahI r z 1 [] U Ä;simp only[lK,yT] at O S;cases en:fq (codes "locker") w with
  |none=>
   rw[en] at m;apply(λx j=>?_,λ_=>⟨(1,0),J m⟩);rw[Cg] at j;symm
  |some n=>
   rw[en] at m;let F:=F _ m;rw[F];constructor
   .intro x j;split at j
    .rename_i M;cases ek:gO r with
     |none=>rw[ek,Cf] at j;cases j
     |some ms=>
      rw[ek] at j;let j:(if (oa ms&&o7 ms)=true then some (n,ms) else none)=some x:=j;split at j
      .rename_i ho;let:=aI j;subst this;let(o1,o2):=(UO (Mt U ek)).mp ho;rw[O ms M ek o1 o2];rfl
      .symm
    .symm
   .intro j;let(e,Z):=S λg=>by
     let(M,ms,hk,hs,j7):=g;rw[af M,hk] at j;let j:(if (oa ms&&o7 ms)=true then some (n,ms) else none)=none:=j;rw[af ((UO (Mt U hk)).mpr ⟨hs,by assumption⟩)] at j;symm
    exact(e,by rw[Z];rfl)
def iY(c:Int):Option Nat:=if c=16 then none else some c.toNat
def Cq:Told->Flags.PlateLine
 |.side s l=>.seen s (eU l)
 |.hoist k=>.hoist (decide (k%2=1)) (decide (k/2=1))
 |.shape k=>.flag k
 |.row l=>.cells (l.map iY)
def ahQ(h:0<=x/\x<=255):Flags.cellIn (B x)=if qt.contains x=true then some (iY ((qt.idxOf x:Nat):Int)) else none:=by
 let:=Cm (p:=λx=>decide (Flags.cellIn (B x)=if qt.contains x=true then some (iY ((qt.idxOf x:Nat):Int)) else none)) Ê h;symm
theorem ahR{l:LI}:aY l->(l.map B).mapM Flags.cellIn=if l.all Ãn=true then some (l.map λb=>iY ((qt.idxOf b:Nat):Int)) else none:=by
 induction l with
 |nil=>exact @λ_=>Á
 |cons x r I=>
  intro h;let I:=I λz m=>h z (aP _ m);rw[aX,HU,ahQ (h x fG),I,so];by_cases j:qt.contains x=true
  .rw[af j,j,ma];by_cases h2:r.all Ãn=true
   .rw[af h2,af h2];rfl
   .rw[ah h2,ah h2];rfl
  .rw[ah j];let j:qt.contains x=false:=by simpa using j
   rw[j,lI,ah eC];rfl
def ahS{w:LI}(j:aY w):(if (w.map B).length=4 then ((w.map B).mapM Flags.cellIn).map Flags.PlateLine.cells else none)=(jZ w).map λl=>Cq (.row l):=by
 delta jZ;rw[az];by_cases h:w.length=4
 .rw[af h,af h,ahR j];delta jJ;by_cases h2:w.all Ãn=true
  .rw[af h2,af h2];show some (Flags.PlateLine.cells _)=some (Flags.PlateLine.cells _);rw[cV];rfl
  .rw[ah h2,ah h2];rfl
 .rw[ah h,ah h];rfl
def UP(h:ws.contains w=false):bj ws w=none:=by
 delta bj;grind
def ahT(j:aY w):fH ĩ=(bj iE w).map λk=>(decide (k%2=1),decide (k/2=1)):=by
 let hs:=afw j;by_cases h:iE.contains w=true
 .let h':w∈iE:=by simpa using h
  simp only[iE,a0,lO,lQ] at h';rcases h' with rfl|rfl|rfl|rfl <;> decide+kernel
 .let h:iE.contains w=false:=by simpa using h
  rw[UP h];symm
def ahU(j:aY w):fF ĩ=bj iF w:=by
 let hs:=afx j;by_cases h:iF.contains w=true
 .let h':w∈iF:=by simpa using h
  simp only[iF,a0,lO,lQ] at h';rcases h' with rfl|rfl|rfl|rfl <;> decide+kernel
 .let h:iF.contains w=false:=by simpa using h
  rw[UP h];symm
def ahV(h:wo c=true):(32:Int)∉c:=λj=>by
 delta wo at h;let:=kU.mp (sy.mp h).2 32 j;exact absurd this Ù
def UQ:wo c=(iw c).isSome:=by
 delta wo iw jJ;grind
def ahW(hs:s∈[0,1,2]):(32:Int)∉JM.dZ s:=by
 let:s=0\/s=1\/s=2:=À hs
 rcases this with rfl|rfl|rfl <;> decide+kernel
def ahX(hs:s∈[0,1,2])(hc:(32:Int)∉c):aJ 32 (jI++32::(JM.dZ s++32::c))=[jI,JM.dZ s,c]:=by
 rw[Ta 32 _ (show(32:Int)∉jI by decide),Ta 32 _ (ahW hs),afq 32 hc]
def ahY(hs:s∈[0,1,2]):bj uX (JM.dZ s)=some s:=by
 let:s=0\/s=1\/s=2:=À hs
 rcases this with rfl|rfl|rfl <;> decide+kernel
def ahZ(h:bj ws w=some i):ws[i]? =some w:=by
 delta bj at h;let(j,h2,_):=P1.mp h;symm
def ah0(G:aY w):(match [0,1,2].find? (pS ĩ) with
  |some s=>(Flags.lookIn ((w.map B).drop (6+(Flags.sideWord s).length))).map λ(x:Nat)=>Flags.PlateLine.seen s x
  |none=>none)=(HD.dZ w).map (λx=>Cq (.side x.1 x.2))/\([0,1,2].find? (pS ĩ)=none↔HD.dZ w=none):=by
 let Z:∀s∈[0,1,2],pS ĩ s=true->∃c l,w=jI++32::(JM.dZ s++32::c)/\iw c=some l/\HD.dZ w=some (s,l):=λs hs M=>by
  let(c,e,hc):=(Td G hs).mp M;let F:=ahV hc;rw[UQ] at hc;let(l,j):=HK.mp hc;apply(c,l,e,j,?_);delta HD.dZ;rw[e,ahX hs F];dsimp only;rw[af rfl,ahY hs,j]
 cases ef:[0,1,2].find? (pS ĩ) with
 |some s=>
  let hs:=List.mem_of_find?_eq_some ef;let(c,l,e,j,es):=Z s hs (List.find?_some ef);apply(?_,⟨λz=>(by cases z),λz=>É⟩);rw[es];show Option.map _ _=some (Flags.PlateLine.seen s (eU l));let(m,_,_):=Tc s hs;let W:(w.map B).drop (6+(Flags.sideWord s).length)=c.map B:=by
   rw[m,az,<-PZ];congr 1;let J:w=preOf (JM.dZ s)++c:=by
    rw[e];delta preOf;simp
   let el:(preOf (JM.dZ s)).length=6+(JM.dZ s).length:=by
    delta preOf;simp[jI];omega
   grind
  let O:aY c:=λx hx=>G x É;rw[W,UC O,j];rfl
 |none=>
  let hn:HD.dZ w=none:=by
   cases es:HD.dZ w with
   |none=>rfl
   |some x=>
    exfalso;delta HD.dZ at es;split at es
    .rename_i a b c U;split at es
     .rename_i S;cases J:bj uX b with
      |none=>symm
      |some s=>
       cases m:iw c with
       |none=>symm
       |some l=>
        let Y:=ahZ J;let Jl:s<3:=(bH.mp Y).1;let hs:s∈[0,1,2]:=by
         grind
        let we:b=JM.dZ s:=by
         delta JM.dZ;symm
        let I:w=jI++32::(JM.dZ s++32::c):=by
         let g:=afs 32 w;rw[U,S,we] at g;exact g.symm
        let M:=(Td G hs).mpr ⟨c,I,by rw[UQ,m];rfl⟩;grind
     .symm
    .symm
  symm
def ah3{w:LI}(j:aY w):Flags.plateLine ĩ=(j0 w).map Cq:=by
 rw[afy,ahT j,ahU j,ahS j];let(S,m):=ah0 j;delta j0;cases ef:[0,1,2].find? (pS ĩ) with
 |some s=>
  rw[ef] at S m;dsimp only at S⊢;cases es:HD.dZ w with
  |none=>exact absurd (m.mpr es) Ä
  |some x=>
   rw[es] at S;exact S
 |none=>
  rw[m.mp ef];dsimp only;cases e1:bj iE w with
  |some k=>rfl
  |none=>
   cases e2:bj iF w with
   |some k=>rfl
   |none=>
    show(jZ w).map _=_;cases jZ w <;> rfl
def iz(s:Nat×LI):Flags.Seen:=Flags.seenOf s.1 (s.2.map iY)
def jg(g:iO):Flags.Glimpse:=⟨g.above,g.below,g.flags.map iz⟩
def o9(m:gj):Flags.Plate:=⟨eU m.classes,m.side,m.ak.map jg⟩
inductive Open:gj->Flags.PlateState->Prop
 |va {m:gj} {s:Flags.PlateState}:s.flag=none->s.hoists=m.ak.map jg->(∀g∈m.ak,∀f∈g.flags,f.2.length=16)->Open m s
 |opened {m:gj} {s:Flags.PlateState} (gs:List iO) (a b:Bool) (fs:List (Nat×LI)) (k:Nat) (cs:LI):m.ak=gs++[⟨a,b,fs++[(k,cs)]⟩]->s.flag=some (k,cs.map iY)->s.hoists=gs.map jg++[⟨a,b,fs.map iz⟩]->
   cs.length<16->cs.length%4=0->(∀g∈gs,∀f∈g.flags,f.2.length=16)->(∀f∈fs,f.2.length=16)->Open m s
structure z6(m:gj)(s:Flags.PlateState):Prop where
 head:s.head=if m.classes=[] then none else some (m.side,eU m.classes)
 op:Open m s
 hd:m.classes=[]->m.ak=[]
theorem FW{m:gj}(h:∀g∈m.ak,∀f∈g.flags,f.2.length=16):jK m=false:=by
 delta jK;cases e:m.ak.getLast? with
 |none=>rfl
 |some g=>
  dsimp only;cases e2:g.flags.getLast? with
  |none=>rfl
  |some f=>
   dsimp only;rw[h g (DS e) f (DS e2)];rfl
def ah4(l:List α)(x:α):(l++[x]).getLast?=some x:=by simp
def FX(h:m.ak=gs++[⟨a,b,fs++[(k,cs)]⟩])(j:cs.length<16):jK m=true:=by
 delta jK;symm
def Mx(f:α->β)(l:List α):(l.map f).getLast?=l.getLast?.map f:=by
 simp
theorem UR(s:Flags.Seen)(g:Flags.Glimpse):∀l:List Flags.Glimpse,Flags.putFlag s (l++[g])=l++[{g with flags:=g.flags++[s]}]
 |[]=>rfl
 |[x]=>rfl
 |x::y::r=>by
  show x::Flags.putFlag s (y::r++[g])=_;rw[UR s g (y::r)];rfl
def US:Told->Prop
 |.side _ l=>l.length=16
 |.row l=>l.length=4
 |_=>True
def ah5{m:gj}{s:Flags.PlateState}(r:z6 m s){t:Told}(ht:US t):
  (dJ m t.sort=true->∃s',s.line (Cq t)=some s'/\z6 (rL m t) s')/\(dJ m t.sort=false->s.line (Cq t)=none):=by
 let(J,W,hd):=r;let Y:m.classes≠[]->s.head.isSome=true:=λhc=>by rw[J,ah hc];rfl
 let Z:m.classes=[]->s.head=none:=λhc=>by rw[J,af hc]
 let emp:m.classes.isEmpty=true↔m.classes=[]:=by simp
 let U:m.classes.isEmpty=false↔m.classes≠[]:=by simp
 let opn:m.classes=[]->s.flag=none/\s.hoists=[]:=λhc=>by
  let I:=hd hc;cases W with
  |va j h2 _=>symm
  |opened gs a b fs k cs j=>symm
 let e4:Flags.MOST=4:=rfl;let e8:Flags.LONG=8:=rfl;cases t with
 |side sd l=>
  show(dJ m 0=true->_)/\(dJ m 0=false->_);let F:dJ m 0=m.classes.isEmpty:=by delta dJ;simp
  rw[F];show(_->∃s',(if s.head=none then some {s with head:=some (sd,eU l)} else none)=some s'/\_)/\(_->(if s.head=none then some {s with head:=some (sd,eU l)} else none)=none);constructor
  .intro h;let hc:=emp.mp h;let(o1,o2):=opn hc;apply(_,af (Z hc),?_);let hl:l≠[]:=λz=>by
    let J:l.length=16:=ht;symm
   apply(?_,.va o1 (by show s.hoists=m.ak.map jg;rw[o2,hd hc];rfl) (λg I=>by rw[show(rL m (.side sd l)).ak=m.ak from rfl,hd hc] at I;simp at I),λz=>absurd z hl);show some (sd,eU l)=if l=[] then none else some (sd,eU l);symm
  .symm
 |hoist k=>
  show(dJ m 1=true->∃s',(if s.head.isSome=true/\s.flag=none/\s.hoists.length<Flags.MOST/\(match s.hoists.getLast? with
   |some g=>!g.flags.isEmpty
   |none=>true)=true then some {s with hoists:=s.hoists++[(⟨decide (k%2=1),decide (k/2=1),[]⟩:Flags.Glimpse)]} else none)=some s'/\_)/\(dJ m 1=false->(if s.head.isSome=true/\s.flag=none/\s.hoists.length<Flags.MOST/\(match s.hoists.getLast? with
   |some g=>!g.flags.isEmpty
   |none=>true)=true then some {s with hoists:=s.hoists++[(⟨decide (k%2=1),decide (k/2=1),[]⟩:Flags.Glimpse)]} else none)=none)
  by_cases hc:m.classes=[]
  .let F:dJ m 1=false:=by delta dJ;simp[hc]
   symm
  .let S:=U.mpr hc;cases W with
   |opened gs a b fs M cs j h2 G O h5 h6 h7=>
    let F:dJ m 1=false:=by delta dJ;simp[S,FX j O]
    symm
   |va j h2 G=>
    let F:dJ m 1=(decide (m.ak.length<4)&& !lD m):=by delta dJ;simp[S,FW G]
    let el:(match s.hoists.getLast? with
     |some g=>!g.flags.isEmpty
     |none=>true)=!lD m:=by
     delta lD;rw[h2,Mx];cases m.ak.getLast? with
     |none=>rfl
     |some g=>
      show(!(g.flags.map iz).isEmpty)=!g.flags.isEmpty;cases g.flags <;> rfl
    rw[F,el];let ah9:(s.head.isSome=true/\s.flag=none/\s.hoists.length<Flags.MOST/\(!lD m)=true)↔(decide (m.ak.length<4)&& !lD m)=true:=by
     symm
    constructor
    .intro h;apply(_,af (ah9.mpr h),?_);apply(?_,.va j ?_ ?_,λz=>absurd z hc)
     .show s.head=if m.classes=[] then none else some (m.side,eU m.classes);omega
     .show s.hoists++_=(m.ak++[_]).map jg;rw[h2,bZ];rfl
     .intro g I;rcases gQ.mp I with I|I
      .grind
      .symm
    .symm
 |shape k=>
  show(dJ m 2=true->∃s',(if s.head.isSome=true/\s.flag=none/\(match s.hoists.getLast? with
   |some g=>decide (g.flags.length<Flags.LONG)
   |none=>false)=true then some {s with flag:=some (k,[])} else none)=some s'/\_)/\(dJ m 2=false->(if s.head.isSome=true/\s.flag=none/\(match s.hoists.getLast? with
   |some g=>decide (g.flags.length<Flags.LONG)
   |none=>false)=true then some {s with flag:=some (k,[])} else none)=none)
  by_cases hc:m.classes=[]
  .let F:dJ m 2=false:=by delta dJ;simp[hc]
   symm
  .let S:=U.mpr hc;cases W with
   |opened gs a b fs M cs j h2 G O h5 h6 h7=>
    let F:dJ m 2=false:=by delta dJ;simp[S,FX j O]
    symm
   |va j h2 G=>
    let F:dJ m 2=(match m.ak.getLast? with
     |some g=>decide (g.flags.length<8)
     |none=>false):=by
     delta dJ;rw[S,FW G];rfl
    let el:(match s.hoists.getLast? with
     |some g=>decide (g.flags.length<Flags.LONG)
     |none=>false)=(match m.ak.getLast? with
     |some g=>decide (g.flags.length<8)
     |none=>false):=by
     rw[h2,Mx];cases m.ak.getLast? with
     |none=>rfl
     |some g=>
      show decide ((g.flags.map iz).length<8)=decide (g.flags.length<8);rw[az]
    rw[F,el];constructor
    .intro h;apply(_,af ⟨Y hc,j,h⟩,?_);rcases qx m.ak with e|⟨gs,g,e⟩
     .symm
     .apply(J,.opened gs g.above g.below g.flags k [] ?_ Á ?_ Ù Ù ?_ ?_,λz=>absurd z hc)
      .show m.ak.dropLast++(m.ak.getLast?.map _).toList=_;symm
      .rw[h2,e,bZ];rfl
      .grind
      .grind
    .symm
 |row l=>
  let wy:l.length=4:=ht;show(dJ m 3=true->∃s',(match s.flag with
   |some (k,mm)=>if (mm++l.map iY).length=16 then some {s with hoists:=Flags.putFlag (Flags.seenOf k (mm++l.map iY)) s.hoists,flag:=none} else some {s with flag:=some (k,mm++l.map iY)}
   |none=>none)=some s'/\_)/\(dJ m 3=false->(match s.flag with
   |some (k,mm)=>if (mm++l.map iY).length=16 then some {s with hoists:=Flags.putFlag (Flags.seenOf k (mm++l.map iY)) s.hoists,flag:=none} else some {s with flag:=some (k,mm++l.map iY)}
   |none=>none)=none)
  cases W with
  |va j h2 G=>
   let F:dJ m 3=false:=by
    delta dJ;by_cases hc:m.classes=[]
    .symm
    .simp[U.mpr hc,FW G]
   symm
  |opened gs a b fs M cs j h2 G O h5 h6 h7=>
   let hc:m.classes≠[]:=λz=>by let:=hd z;rw[j] at this;simp at this
   let F:dJ m 3=true:=by delta dJ;simp[U.mpr hc,FX j O]
   rw[F,h2];apply(λ_=>?_,λz=>(by cases z));dsimp only;let ep:(rL m (.row l)).ak=gs++[⟨a,b,fs++[(M,cs++l)]⟩]:=by
    show m.ak.dropLast++(m.ak.getLast?.map _).toList=_;symm
   let ec:cs.map iY++l.map iY=(cs++l).map iY:=by rw[bZ]
   rw[ec,az,lJ,wy];by_cases rP:cs.length+4=16
   .rw[af rP];apply(_,Á,J,.va Á ?_ ?_,λz=>absurd z hc)
    .let eg:jg ⟨a,b,fs++[(M,cs++l)]⟩=⟨a,b,fs.map iz++[Flags.seenOf M ((cs++l).map iY)]⟩:=by
      delta jg;rw[bZ];rfl
     rw[G,UR,ep,bZ (f:=jg),aX,lK,eg]
    .grind
   .rw[ah rP];apply(_,Á,J,.opened gs a b fs M (cs++l) ep Á G ?_ ?_ h6 h7,λz=>absurd z hc)
    .grind
    .symm
end HD
end
section
namespace HD
open PySem PySem.Spec PyProof.Rows L2
open PySem.W (Codec)
abbrev nv(l:LN):LI:=l.map λn=>((n:Nat):Int)
def fu:g8:=⟨0,[],0,0,0,[]⟩
def mX{l:LN}{i:Nat}{y:V}(h:Èa[i]? =some y):∃z,l[i]? =some z/\y=V.int (z:Nat):=by
 let(z,j,e):=sX h;rw[bz] at j;cases q:l[i]? with
 |none=>rw[q] at j;cases j
 |some n=>
  rw[q] at j;let:=aI j;subst this;exact(n,Á,e)
def jw(l:LN):(nv l).length=l.length:=by delta nv;rw[az]
def Cr(h:aV H Ãs):H l.a=some (.ins CL l.dx (FA l)):=h (l.a,_) (by simp[tp])
def aia(h:aV H Ãs):H l.kl=some (.lst (l.kinds.map λk=>V.ref k.a)):=h (l.kl,_) (by simp[tp])
def aib(h:aV H Ãs):aV H (zT CK l.kinds):=λx j=>h x (by delta tp;exact aP _ (aP _ (aP _ j)))
def UT{α:Type}{l:List α}(h:l.length=1):∃a,l=[a]:=List.length_eq_one_iff.mp h
def UU{α:Type}{l:List α}(h:l.length=2):∃a b,l=[a,b]:=by
 let(a,l,rfl):=Y5 h;let(b,rfl):=UT (Y6 h);exact(a,b,Á)
def UV{α:Type}{l:List α}(h:l.length=3):∃a b c,l=[a,b,c]:=by
 let(a,l,rfl):=Y5 h;let(b,c,rfl):=UU (Y6 h);exact(a,b,c,Á)
def aic{α:Type}{l:List α}(h:l.length=4):∃a b c d,l=[a,b,c,d]:=by
 let(a,l,rfl):=Y5 h;let(b,c,d,rfl):=UV (Y6 h);exact(a,b,c,d,Á)
def jN(K:FR)(C:Addr)(fs:LS):Prop:=lh K C/\∀f∈fs,ϭ f
def rR(c:Nat):Nat:=c-c%4+4-1-c%4
inductive My(vs:au)(H:Hp)(Q:VK)(E':XK):Prop
 |mk (c:Nat) (_:vs=[.int (c:Nat)]) (_:Q (.int (rR c:Nat)) H)
def tu(look classes:LI)(side:Nat):LI:=if side=1 then (List.range 16).map (λc=>classes.getD (look.getD (rR c) 0).toNat 0) else look.map λx=>classes.getD x.toNat 0
inductive UW(K:FR)(vs:au)(H:Hp)(Q:VK)(E':XK):Prop
 |mk (al ac:Addr) (look classes:LI) (side:Nat) (_:vs=[.ref al,.ref ac,.int (side:Nat)]) (_:ä al (iv look)) (_:iX look) (_:ä ac (iv classes)) (_:classes.length=16) (_:∀H' p,Ϧ (.lst (iv (tu look classes side)))->Q ĥ H')
def UX{D:Addr}{ys:au}{H:Hp}{α:Type}{L:List α}{g:α->Int}(hd:H D=some Ân)(e:ys=L.map λx=>V.int (g x)):H D=some (.lst (iv (L.map g))):=by
 symm
def yn{l:LI}{i:Nat}(h:i<l.length):(iv l)[i]? =some (.int (l.getD i 0)):=by
 symm
section
variable{P:Pg}{w:Wd}{K:FR}{mg:MG}{base:Heap}{CK CL CS N CV:Addr}{C:Cs}
def aid:bO ["cell"] ["cell"] (aZ Kc):=cu
def aie(F:bu K "cell_behind" "cell_behind" Kc f fd)(j:Cn mg "ROW" (.int 4)):Ì aE 1 f fd ["cell"] My:=by
 refine F.ok aid Â;let(c,rfl,k):=h;apply(_,aD (a7 (eS rg (eS rg (eS qZ (eS rg Û (eS IL Û (cf j))) (cf j)) bp) (eS IL Û (cf j)))),?_);apply(_,Á,_,Á,_,_,Á,Á,Å,_,_,Á,Á,_,_,Á,Á,_,_,Á,Á,_,Á,_,_,Á,Á,Å,_,_,Á,Á,?_);let e:((c:Int)-(c:Int)%4+4-1-(c:Int)%4)=((rR c:Nat):Int):=by delta rR;omega
 symm
def UY{c:Nat}(h:c<16):rR c<16:=by delta rR;omega
def Cu:bO ["look","classes","side","cell","colour"] ["look","classes","side"] (aZ Kd):=cu
def aif{f:Addr}{fd:FD}(F:bu K "cells_seen" "cells_seen" Kd f fd)(tR:mg "range"=none)(cB:Cn mg "BEHIND" Ţ)(cC:Cn mg "CELLS" (.int 16))(dB:Ç 1 "cell_behind" ["cell"] My):Ì aE 2 f fd ["look","classes","side"] (UW K):=by
 refine F.ok Cu Â;let(G,Z,look,classes,side,rfl,S,j,hC,UZ,k):=h;refine⟨_,aB (dj (cI ir ç (cf cB) (bV _)) (aD (a7 (eE (own:=[("cell",3)]) (te:=bX Ż ϓ (bX Ż ϔ (ie My [] E0 Ãa))) Á Cu.nd (IH Ô tR (ae (cf cC) ag)) Ë
   (λ_ _ _ _ _=>dw 3 Cu.nd) Ö (λ_ _ _ _ _=>cA cZ ã (cA cZ Û (bx dB ĵ) Ø) Ø)))) dY)
  (aD (a7 (eE (own:=[("colour",4)]) (te:=bX Ż ϓ Ãy) rfl Cu.nd Äu Ë
   (λ_ _ _ _ _=>dw 4 Cu.nd) Ö (λ_ _ _ _ _=>cA cZ ã Ĵ Ø)))),?_⟩
 let q:=k;delta tu at q;refine Ŵ;rw[show V.int 1=V.int ((1:Nat):Int) from rfl,mj];let Y:∀x,0<=x->x<16->p9 (iv classes) x=some (.int (classes.getD x.toNat 0)):=λx h0 m=>by
  obtain⟨n,rfl⟩:∃n:Nat,x=(n:Int):=⟨x.toNat,by omega⟩;exact fU (yn Å)
 refine ba Î Î
 .simp at hc;rw[af hc] at q;refine⟨16,Á,by decide,by decide,λD hD=>Eu (lo:=0) (n:=16) (ck H D λi y ns=>ns=[]/\y=.int (classes.getD (look.getD (rR i) 0).toNat 0)) ĉ Âp û⟩
  .let hb:=UY hi;let(M,O):=j.2 _ (getD_mem (l:=look) (i:=rR i) (by rw[j.1];exact hb));apply(Á,eM ⟨_,Á,_,Á,_,Á,i,?_,?_⟩)
   .simp
   .exact(G,_,_,.int (look.getD (rR i) 0),Á,Á,f.same.seq S,fU (yn (by rw[j.1];exact hb)),Z,_,_,_,Á,Á,f.same.seq hC,Y _ M O,(f.step hD Å Ĳ ⟨Á,Á⟩ aV.nil Ä))
  .let(ys,W,I,J,fl):=f.end;apply q H' D ⟨W,hD,UX I (u7 (by assumption) λi y x m h2=>?_)⟩;let(ns,(_,e),_):=fl i y m;grind
 .simp at hc;rw[ah hc] at q;refine⟨_,Á,G,Á,⟨_,S⟩,λD hD=>gy (K:=K) (a:=G) (xs:=iv look) (ck H D λi y ns=>ns=[]/\∃x,look[i]? =some x/\y=.int (classes.getD x.toNat 0)) ĉ (λi H' _ f=>f.same.seq S) Đ û⟩
  .let(z,U,rfl):=sX hi;let eA:=(bH.mp U).1;let rP:=j.1;let(M,O):=j.2 z (bI U);exact(Á,eM ⟨_,Á,_,Á,Z,_,_,_,Á,Á,f.same.seq hC,Y z M O,(f.step hD Å Ĳ ⟨Á,z,U,Á⟩ aV.nil Ä)⟩)
  .let(ys,W,I,J,fl):=f.end;rw[d7] at J;apply q H' D ⟨W,hD,UX I (u7 J λi y x m h2=>?_)⟩;let(ns,(_,z,e1,e),_):=fl i y m;symm
inductive Mz(K:FR)(C:Cs)(CK:Addr)(vs:au)(H:Hp)(Q:VK)(E':XK):Prop
 |mk (k:aA) (ac:Addr) (classes:LI) (side:Nat) (_:vs=[.ref k.a,.ref ac,.int (side:Nat)]) (_:aV H (j5 CK k)) (_:iX k.m.look) (_:ä ac (iv classes)) (_:classes.length=16) (_:∀H' s,ai H H'->s.shape=k.m.shape->s.cells=tu k.m.look classes side->aV H' (iy C s)->(∀x∈iy C s,H x.1=none)->Q (.ref s.a) H')
def aih:bO ["kind","classes","side"] ["kind","classes","side"] (aZ KJ):=cu
def aii(F:bu K "sighting_of" "sighting_of" KJ f fd)(T:tj K CK)(W:ă "Sighting" C.S ["shape","cells"])(O:Ç 2 "cells_seen" ["look","classes","side"] (UW K)):
  a9 P w K mg base aE 3 f fd ["kind","classes","side"] (Mz K C CK):=by
 refine F.ok aih Â;let(z,M,classes,side,rfl,G,qE,Z,U,k):=h;apply(_,aD (a7 (qy W hr (ae Ŗ (ae (bx O (ae Ŗ (ae ã ŧ))) ag)))),?_);apply(_,Á,bc (jv G) T.c T.zK (Ul z) ⟨_,Á,bc (jv G) T.c T.Uo (Um z) ⟨_,Á,_,Á,z.lk,M,z.m.look,classes,side,Á,aa.of (Uy G),qE,Z,U,λH1 pc j=>?_⟩⟩);apply wD Á λx dx J hx iW aU Y I=>?_;apply k J ⟨x,dx,pc,z.m.shape,_⟩ (j.1.trans I) Á Á Ào λy hy=>?_
 .simp only[iy,a0,lO,lQ] at hy;rcases hy with rfl|rfl
  .exact Y
  .exact I _ _ j.2.2
 .simp only[iy,a0,lO,lQ] at hy;rcases hy with rfl|rfl
  .exact j.1.free hx
  .exact j.2.1
end
def FZ{D:Addr}{ys:au}{H:Hp}{n:Nat}{b:Nat->Bool}(hd:H D=some Ân)(m:ys.length=n)(h:∀(i:Nat)(y:V),ys[i]? =some y->y=.bl (b i)):H D=some (.lst (((List.range n).map b).map V.bl)):=by
 let e:ys=(List.range n).map (V.bl∘b):=u7 (by rw[m,ib]) λi y x j h2=>by
  rw[h i y j,yf h2];rfl
 rw[hd,cV,e]
def wQ(h w:LI)(i:Nat):Bool:=decide (h.getD i 0=16)||decide (h.getD i 0=w.getD i 0)
def wR(h w:Nat×LI):Bool:=if h.1≠3/\h.1≠w.1 then false else (List.range h.2.length).all (wQ h.2 w.2)
inductive MA(C:Cs)(vs:au)(H:Hp)(Q:VK)(E':XK):Prop
 |mk (a b:eN) (_:vs=[.ref a.a,.ref b.a]) (_:Lies H (iy C a)) (_:Lies H (iy C b)) (_:a.cells.length<=b.cells.length) (_:a.cells.length<=100) (_:∀H',ai H H'->Q (.bl (wR a.m b.m)) H')
section
variable{P:Pg}{w:Wd}{K:FR}{mg:MG}{base:Heap}{CK CL CS N CV:Addr}{C:Cs}
def MB:bO ["half","whole","cell","seen"] ["half","whole"] (aZ KO):=cu
def aij{f:Addr}{fd:FD}(F:bu K "may_be" "may_be" KO f fd)(T:mJ K C)(tA:mg "all"=none)(tE:mg "enumerate"=none)(O:Cn mg "UNSEEN_SHAPE" (.int 3))(U:Cn mg "UNSEEN_CELL" (.int 16)):
  a9 P w K mg base aE 1 f fd ["half","whole"] (MA C):=by
 refine F.ok MB Â;let(a,b,rfl,j,G,hl,jq,k):=h;refine⟨_,aB (dj (PW.pt (pw_and (cI vP Ŗ (cf O) (bV _)) (pw_and1 (cI vP Ŗ (bg ã Á) (bV _))))) Âk dY)
  (aD (a7 (df (vT rfl) Ô tA yR (ae (eE (own:=[("cell",2),("seen",3)]) (g:=g2 K 2 3) (te:=ID (bX oQ ŗ (tC (.int 16))) (bX oQ ŗ (bX Ż (fQ K ϓ "cells") ś))) rfl MB.nd
   (lu Ô tE Äz) Ë
   (λ_ _ _ _ _=>iL 2 3 MB.nd) Ö
   (λ_ _ _ _ _=>Qp (jF ir ø (cf U) (bV _)) (sI (jF ir ø (cA cZ ŀ ç Ø) (bV _))))) ag)))),?_⟩
 let W:wR a.m b.m=if a.shape≠3/\a.shape≠b.shape then false else (List.range a.cells.length).all (wQ a.cells b.cells):=rfl;rw[W] at k;refine and_val (!decide (a.shape=3)) (!decide (a.shape=b.shape)) (λK h=>⟨_,Á,bc j.sa T.cS T.zK (Lu a) Ķ⟩) (λ_ K h=>⟨_,Á,bc j.sa T.cS T.zK (Lu a) ⟨_,Á,bc G.sa T.cS T.zK (Lu b) Ķ⟩⟩) (ba Î Î)
 .rw[show V.int 3=V.int ((3:Nat):Int) from rfl,mj];exact h
 .rw[mj];exact h
 .rw[af É] at k;exact k H Ž
 .rw[ah (by grind)] at k;let J:=j.sl;refine⟨_,Á,bc j.sa T.cS T.Fl (Fk a) ⟨a.l,_,Á,aa.of J,λD hD=>lY (K:=K) (a:=a.l) (xs:=iv a.cells) (ck H D λi y ns=>ns=[]/\y=.bl (wQ a.cells b.cells i)) ĉ (λi H' _ f=>aa.of (f.same _ _ J)) Ŏ û⟩⟩
  .let(z,Z,rfl):=sX hi;let eA:=(bH.mp Z).1;let S:ai H' (ϥ (.tup [.int (i:Nat),.int z])):=aK hT;let M:=f.same.trans S;refine ß;apply Sx (decide (z=16)) (decide (z=b.cells.getD i 0)) (λK h=>⟨_,Á,Á,?_⟩) (λ_ K h=>⟨_,Á,_,Á,bc (M _ _ G.sa) T.cS T.Fl (Fk b) ⟨_,Á,b.l,_,_,.int (b.cells.getD i 0),Á,Á,aa.of (M _ _ G.sl),fU (yn Å),Á,?_⟩⟩) ?_
   .symm
   .symm
   .refine f.step hD Å S ų aV.nil Ä;delta wQ;symm
  .let(ys,S,Y,I,fl):=f.end;rw[d7] at I;apply(D,(List.range a.cells.length).map (wQ a.cells b.cells),Á,aa.of (FZ Y I λi y e=>?_),?_)
   .let(ns,(_,e),_):=fl i y e;omega
   .symm
end
structure c6 where
 a:Addr
 ns:LN
structure cg where
 a:Addr
 ls:List c6
def lsN(x:c6):jt:=[(x.a,.lst (iv (nv x.ns)))]
def eX(y:cg):jt:=(y.a,.lst (y.ls.map λx=>V.ref x.a))::y.ls.flatMap lsN
def cg.m(y:cg):br:=y.ls.map c6.ns
def jh(H:Hp)(ns:jt):Prop:=∀x∈ns,H x.1=none
def Cv(h:aV H (lsN x)):H x.a=some ϋ:=h (x.a,_) (by simp[lsN])
def jO(h:aV H Æx):H y.a=some (.lst (y.ls.map λx=>V.ref x.a)):=h (y.a,_) (by simp[eX])
def mY(h:aV H Æx)(j:x∈y.ls):H x.a=some ϋ:=Cv λz m=>h z (by delta eX;exact aP _ (kZ.mpr ⟨x,j,m⟩))
def U1{H:Hp}{a:Addr}{ls:List c6}(h:H a=some (.lst (ls.map λx=>V.ref x.a)))(h2:∀x∈ls,aV H (lsN x)):aV H (eX ⟨a,ls⟩):=λz j=>by
 rcases a0.mp j with rfl|j
 .exact h
 .let(x,m,j):=kZ.mp j;exact h2 x m z j
def Cw{H:Hp}{a:Addr}{ls:List c6}(h:H a=none)(h2:∀x∈ls,jh H (lsN x)):jh H (eX ⟨a,ls⟩):=λz j=>by
 rcases a0.mp j with rfl|j
 .exact h
 .let(x,m,j):=kZ.mp j;exact h2 x m z j
theorem iA{α:Type}{a:α->Addr}{l:List α}{i:Nat}{y:V}(h:(l.map λk=>V.ref (a k))[i]? =some y):∃z,l[i]? =some z/\y=V.ref (a z):=by
 rw[bz] at h;cases e:l[i]? with
 |none=>rw[e] at h;cases h
 |some z=>rw[e] at h;exact(z,Á,(aI h).symm)
def MC{α β:Type}{bs:List α}{m:α->β}{l:List β}(j:bs.length=l.length)(h:∀(i:Nat)(b:α)(x:β),bs[i]? =some b->l[i]? =some x->m b=x):bs.map m=l:=by
 apply xt;grind
def Cy(i:Nat):(List.range (i+1)).filter p=(List.range i).filter p++(if p i=true then [i] else []):=by
 rw[HZ,DT];grind
def aik(i:Nat):((List.range i).filter p).length<=i:=by
 grind
def l6(H1:Hp)(D:Addr)(p:Nat->Bool)(i:Nat)(H:Hp):Prop:=ai H1 H/\H D=some (.lst (iv (nv ((List.range i).filter p))))
def l6.zero{H1:Hp}{D:Addr}{p:Nat->Bool}(j:H1 D=none):l6 H1 D p 0 Č:=⟨aK j,ao⟩
def l6.yes(j:H1 D=none)(hi:i<1000000)(f:l6 H1 D p i H)(s:ai H H4)(h:p i=true):jX D (l6 H1 D p (i+1)) (V.int (i:Nat)) H4:=by
 apply(_,s _ _ f.2,?_,fe (f.1.trans s) j,?_)
 .rw[d7,jw];let:=aik (p:=p) i;exact gi Å
 .rw[ao,Cy,af h];simp
def l6.no(f:l6 H1 D p i H)(s:ai H H4)(h:¬p i=true):l6 H1 D p (i+1) H4:=by
 apply(f.1.trans s,?_);rw[Cy,ah h,jV];exact s _ _ f.2
def jx(H:Hp)(D:Addr)(g:Nat->LN):Nat->Hp->Prop:=ck H D λi y ns=>∃b:c6,(b.ns=g i/\jh H (lsN b))/\y=.ref b.a/\ns=lsN b
def jx.step{H H' m:Hp}{D r:Addr}{g:Nat->LN}{i:Nat}(z:H D=none)(hi:i<1000000)(f:jx H D g i H')(s:ai H' m)(hr:H' r=none)(e:m r=some (.lst (iv (nv (g i))))):
  jX D (jx H D g (i+1)) (V.ref r) m:=
 ck.step z hi f s (ns:=lsN ⟨r,g i⟩) ⟨⟨r,g i⟩,⟨rfl,λx j=>by
  simp only[lsN,a0,lO,lQ] at j;subst j;exact f.same.free hr⟩,rfl,rfl⟩ (λx j=>by
  simp only[lsN,a0,lO,lQ] at j;subst j;exact e) (λx j e=>by
  simp only[lsN,a0,lO,lQ] at j;subst j;exact f.has (by rw[<-e];exact hr))
def jx.end{H H':Hp}{D:Addr}{g:Nat->LN}{n:Nat}(M:H D=none)(f:jx H D g n H'):∃y:cg,y.a=D/\ai H H'/\y.m=(List.range n).map g/\aV H' Æx/\jh H Æx:=by
 let(ys,U,I,F,fl):=ck.end f;let(bs,G,z,S):=wJ (v:=λb:c6=>V.ref b.a) (nd:=lsN) (R:=λi b=>b.ns=g i/\jh H (lsN b)) fl;subst G;rw[az] at F;apply(⟨D,bs⟩,Á,U,?_,U1 I S,Cw M λb O=>?_)
 .apply MC (by rw[az,ib];exact F) λi b x J h2=>?_;rw[bz] at h2;cases e:Èv[i]? with
  |none=>rw[e] at h2;cases h2
  |some j=>
   rw[e] at h2;cases h2;rw[yf e];exact(z i b J).1
 .let(i,hi,e):=pQ O;exact(z i b (by rw[cY hi,e])).2
theorem wU{α β:Type}{l:List α}{g:α->β}{d:α}:(List.range l.length).map (λi=>g (l.getD i d))=l.map g:=by
 apply MC (by rw[ib,az]) λi b x j h2=>?_;rw[bz] at h2;cases e:l[i]? with
 |none=>rw[e] at h2;cases h2
 |some z=>
  rw[e] at h2;cases h2;rw[yf j,getD_at e]
def tw(ls:List (Nat×LI))(h:Nat×LI):LN:=(List.range ls.length).filter λi=>wR h (ls.getD i (0,[]))
def yo(ls:List (Nat×LI))(g:iO):br:=g.flags.map (tw ls)
def z7(C:Cs)(H:Hp)(p:Addr)(ls:List eN):Prop:=H p=some (.lst (ls.map λl=>V.ref l.a))/\(∀l∈ls,Lies H (iy C l))/\∀l∈ls,l.cells.length=16
def z7.same{C:Cs}{H H':Hp}{p:Addr}{ls:List eN}(h:z7 C H p ls)(s:ai H H'):z7 C H' p ls:=⟨s _ _ h.1,λl j=>(h.2.1 l j).same s,h.2.2⟩
inductive MD(C:Cs)(vs:au)(H:Hp)(Q:VK)(E':XK):Prop
 |mk (p:Addr) (ls:List eN) (h:eN) (_:vs=[.ref p,.ref h.a]) (_:z7 C H p ls) (_:ls.length<=100000) (_:Lies H (iy C h)) (_:h.cells.length=16) (_:∀H' r,o4 H H' r (.lst (iv (nv (tw Åp h.m))))->Q Án H')
inductive ME(C:Cs)(vs:au)(H:Hp)(Q:VK)(E':XK):Prop
 |mk (p:Addr) (ls:List eN) (g:cw) (_:vs=[.ref p,.ref g.a]) (_:z7 C H p ls) (_:ls.length<=100000) (_:Lies H Æv) (_:g.flags.length<=100) (_:(∀s∈g.flags,s.cells.length=16)) (_:∀H' y,ai H H'->cg.m y=yo Åp g.m->aV H' Æx->jh H Æx->Q Às H')
section
variable{P:Pg}{w:Wd}{K:FR}{mg:MG}{base:Heap}{CK CL CS N CV:Addr}{C:Cs}
def MF:bO ["looks","half","number","whole"] ["looks","half"] (aZ KN):=cu
def ail{f:Addr}{fd:FD}(F:bu K "kinds_that_look_so" "kinds_that_look_so" KN f fd)(tE:mg "enumerate"=none)(O:Ç 1 "may_be" ["half","whole"] (MA C)):Ì aE 2 f fd ["looks","half"] (MD C):=by
 refine F.ok MF Â;let(p,ls,z,rfl,j,Z,U,G,k):=h;refine⟨_,aD (a7 (eE (own:=[("number",2),("whole",3)]) (g:=g2 K 2 3) (tt:=tB (ie (MA C) [] E0 (bq ϓ Ãa))) (te:=ay 2) Á MF.nd
   (Âv) Ë
   (λ_ _ _ _ _=>iL 2 3 MF.nd)
   (λ_ _ _ _ _=>qg (jD (bx O (ae ã ĵ)))) Äh)),?_⟩
 refine⟨_,Á,p,_,Á,aa.of j.1,λD J=>lY (K:=K) (a:=p) (xs:=ls.map λl=>V.ref l.a) (l6 H D λi=>wR z.m ((ls.map eN.m).getD i (0,[]))) (l6.zero J) (λi H' _ f=>aa.of (f.1 _ _ j.1)) Ŏ û⟩
 .let(l,I,rfl):=iA hi;let M:=bI I;let Y:=(bH.mp I).1;let s1:ai H' (ϥ (.tup [.int (i:Nat),.ref l.a])):=aK hT;let S:=f.1.trans s1;refine ï;apply(_,Á,_,Á,z,l,Á,U.same S,(j.2.1 l M).same S,by rw[G,j.2.2 l M];exact bU _,by omega,λW s3=>⟨_,rfl,?_⟩);let e:wR z.m ((ls.map eN.m).getD i (0,[]))=wR z.m l.m:=by rw[getD_map I]
  refine ba Î Î
  .exact(_,Á,f.yes J Å Ån (e.trans hc))
  .exact f.no Ån É
 .let e:=f.2;rw[az] at e;apply k H' D ⟨f.1,J,?_⟩;delta tw;symm
def MH:bO ["looks","glimpse","flag"] ["looks","glimpse"] (aZ KM):=cu
def ain{f:Addr}{fd:FD}(F:bu K "kinds_along" "kinds_along" KM f fd)(T:mJ K C)(O:Ç 2 "kinds_that_look_so" ["looks","half"] (MD C)):Ì aE 3 f fd ["looks","glimpse"] (ME C):=by
 refine F.ok MH Â;let(p,ls,g,rfl,W,U,G,oj,j,k):=h;let J:=G.fl;refine⟨_,aD (a7 (eE (own:=[("flag",2)]) (te:=ie (MD C) [] E0 (bq ϔ (bq ś dQ))) Á MH.nd (eV (bg ã Á)) Ë
   (λ_ _ _ _ _=>dw 2 MH.nd) Ö (λ_ _ _ _ _=>bx O (ae Û ŧ)))),?_⟩
 refine⟨_,Á,bc G.ga T.cG T.wx (wu g) ⟨g.l,Á,⟨_,aa.of J⟩,λD hD=>gy (K:=K) (a:=g.l) (xs:=g.flags.map λs=>V.ref s.a) (jx H D λi=>tw Åp ((g.flags.map eN.m).getD i (0,[]))) ĉ (λi H' _ f=>aa.of (f.same _ _ J)) Đ û⟩⟩
 .let(sg,z,rfl):=iA hi;let M:=bI z;let eA:=(bH.mp z).1;exact(Á,eM ⟨_,Á,_,Á,p,ls,sg,Á,W.same f.same,U,(G.zJ M).same f.same,j sg M,λH3 r I=>(jx.step hD Å f I.1 I.2.1 (by rw[getD_map z];exact I.2.2))⟩)
 .let(y,rfl,Z,S,Y,fr):=jx.end hD f;apply k H' y Z ?_ Y fr;rw[S,az];let:=wU (l:=g.flags.map eN.m) (g:=tw Åp) (d:=(0,[]));rw[az] at this;exact this
end
def om{β:Type}(nd:β->jt)(ad:β->Addr)(R:Nat->β->Prop)(H:Hp)(D:Addr):Nat->Hp->Prop:=ck H D λi y ns=>∃b:β,(R i b/\jh H (nd b))/\y=.ref (ad b)/\ns=nd b
def om.step{β:Type}{nd:β->jt}{ad:β->Addr}{R:Nat->β->Prop}{H H' j:Hp}{D:Addr}{i:Nat}(z:H D=none)(hi:i<1000000)(f:om nd ad R H D i H')(s:ai H' j)(b:β)(r:R i b)(l:aV j (nd b))(fr:jh H' (nd b)):
  jX D (om nd ad R H D (i+1)) (V.ref (ad b)) j:=
 ck.step z hi f s (ns:=nd b) ⟨b,⟨r,λx m=>f.same.free (fr x m)⟩,rfl,rfl⟩ l (λx m e=>f.has (by rw[<-e];exact fr x m))
def om.end{β:Type}{nd:β->jt}{ad:β->Addr}{R:Nat->β->Prop}{H H':Hp}{D:Addr}{n:Nat}(f:om nd ad R H D n H'):∃bs:List β,bs.length=n/\ai H H'/\H' D=some (.lst (bs.map λb=>V.ref (ad b)))/\(∀(i:Nat)(b:β),bs[i]? =some b->R i b)/\(∀b∈bs,aV H' (nd b))/\∀b∈bs,jh H (nd b):=by
 let(ys,S,z,F,fl):=ck.end f;let(bs,m,j,I):=wJ (v:=λb:β=>V.ref (ad b)) (nd:=nd) (R:=λi b=>R i b/\jh H (nd b)) fl;subst m;rw[az] at F;apply(bs,F,S,z,λi b e=>(j i b e).1,I,λb G=>?_);let(i,hi,e):=pQ G;exact(j i b (by rw[cY hi,e])).2
def jh.back(h:jh H' ns)(s:ai H H'):jh H ns:=λx j=>s.free (h x j)
def Cz{α β γ:Type}{bs:List β}{l:List α}{m:β->γ}{g:α->γ}(z:bs.length=l.length)(h:∀(i:Nat)(b:β)(x:α),bs[i]? =some b->l[i]? =some x->m b=g x):bs.map m=l.map g:=
 MC (by rw[az];exact z) λi b y j h2=>by
  rw[bz] at h2;cases e:l[i]? with
  |none=>rw[e] at h2;cases h2
  |some x=>
   rw[e] at h2;cases h2;exact h i b x j e
structure vb where
 a:Addr
 dx:Addr
 gl:Addr
 side:Nat
 gs:List cg
def F1(v:vb):List (Str×V):=[("side",.int (v.side:Nat)),("glimpses",.ref v.gl)]
def qF(CV:Addr)(v:vb):jt:=(v.a,.ins CV v.dx (F1 v))::(v.gl,.lst (v.gs.map λg=>V.ref g.a))::v.gs.flatMap eX
def aip(v:vb):(F1 v).lookup ("side":Str)=some (.int (v.side:Nat)):=gZ
def aiq(v:vb):(F1 v).lookup ("glimpses":Str)=some (.ref v.gl):=(fw Ê).trans gZ
def U2(h:aV H Æb):H v.a=some (.ins CV v.dx (F1 v)):=h (v.a,_) (by simp[qF])
def air(h:aV H Æb):H v.gl=some (.lst (v.gs.map λg=>V.ref g.a)):=h (v.gl,_) (by simp[qF])
def ais(h:aV H Æb)(j:g∈v.gs):aV H (eX g):=λx m=>h x (by
 delta qF;exact aP _ (aP _ (kZ.mpr ⟨g,j,m⟩)))
def pb(classes:LI)(side:Nat)(k:g8):Nat×LI:=(k.shape,tu k.look classes side)
def qG(ms:aF)(classes:LI)(side:Nat)(gs:List iO):List br:=gs.map (yo (ms.map (pb classes side)))
structure wV(C:Cs)(H:Hp)(p:eT):Prop where
 l:Lies H Ál
 yp:p.classes.length=16
 dg:p.ak.length<=100
 flags:∀g∈p.ak,g.flags.length<=100
 cells:∀g∈p.ak,∀s∈g.flags,s.cells.length=16
def wV.same{C:Cs}{H H':Hp}{p:eT}(h:wV C H p)(s:ai H H'):wV C H' p:=⟨h.l.same s,h.yp,h.dg,h.flags,h.cells⟩
structure pd(CK:Addr)(H:Hp)(pk:Addr)(ks:List aA):Prop where
 a:H pk=some (.lst (ks.map λk=>V.ref k.a))
 l:aV H (zT CK ks)
 dg:ks.length<=100000
 look:∀k∈ks,iX k.m.look
def pd.same{CK:Addr}{H H':Hp}{pk:Addr}{ks:List aA}(h:ű ks)(s:ai H H'):pd CK H' pk ks:=⟨s _ _ h.a,h.l.same s,h.dg,h.look⟩
inductive MI(C:Cs)(CK CV:Addr)(vs:au)(H:Hp)(Q:VK)(E':XK):Prop
 |mk (pk:Addr) (ks:List aA) (p:eT) (side:Nat) (_:vs=[.ref pk,.ref p.a,.int (side:Nat)]) (_:ű ks) (_:wV C H p) (_:∀H' v,ai H H'->v.side=side->v.gs.map cg.m=qG Í p.classes side ñ->aV H' Æb->jh H Æb->Q (.ref v.a) H')
section
variable{P:Pg}{w:Wd}{K:FR}{mg:MG}{base:Heap}{CK CL CS N CV:Addr}{C:Cs}
def z8:bO ["kinds","plate","side","looks","kind","glimpse"] ["kinds","plate","side"] (aZ KL):=cu
def ait{look classes:LI}{side:Nat}(h:iX look):(tu look classes side).length=16:=by
 delta tu;split
 .rfl
 .rw[az,h.1]
def aiu{f:Addr}{fd:FD}(F:bu K "view_of" "view_of" KL f fd)(T:mJ K C)(dV:ă "View" CV ["side","glimpses"])(dS:Ç 3 "sighting_of" ["kind","classes","side"] (Mz K C CK))(dA:Ç 3 "kinds_along" ["looks","glimpse"] (ME C)):
  a9 P w K mg base aE 4 f fd ["kinds","plate","side"] (MI C CK CV):=by
 refine F.ok z8 Â;let(pk,ks,p,side,rfl,hk,J,k):=h;refine⟨_,aB (cq 3 z8.nd (eE (own:=[("kind",4)]) (te:=ie (Mz K C CK) [] E0 (bq Ãy (bq (fQ K ϓ "classes") (bq ś dQ)))) Á z8.nd Äu Ë
   (λ_ _ _ _ _=>dw 4 z8.nd) Ö (λ_ _ _ _ _=>bx dS (ae Ĵ (ae ŀ ŧ)))))
  (aD (a7 (qy dV hr (ae ç (ae (eE (own:=[("glimpse",5)]) (te:=ie (ME C) [] E0 (bq ŗ Ès)) rfl z8.nd (eV ŀ) Ë
   (λ_ _ _ _ _=>dw 5 z8.nd) Ö (λ_ _ _ _ _=>bx dA (ae ø Ũ))) ag))))),?_⟩
 refine⟨_,Á,pk,Á,⟨_,aa.of hk.a⟩,λD hD=>gy (K:=K) (a:=pk) (xs:=ks.map λk=>V.ref k.a) (om (iy C) eN.a (λi b=>∀k,ks[i]? =some k->b.m=pb p.classes side k.m/\b.cells.length=16) H D) ĉ (λi H' _ f=>aa.of (f.same _ _ hk.a)) Đ û⟩
 .let(z,j,rfl):=iA hi;let I:=bI j;let eA:=(bH.mp j).1;let hf:=hk.dg;apply(Á,eM ⟨_,Á,_,Á,bc (f.same _ _ J.l.pl) T.cP T.Fm (Ls p) ⟨_,Á,z,p.cl,p.classes,side,Á,(n8 hk.l I).same f.same,hk.look z I,aa.of (f.same _ _ J.l.cl),J.yp,λM sg s3 e1 e2 ls fr=>?_⟩⟩);apply om.step hD Å f s3 sg (λk' W=>?_) ls fr;rw[j] at W;cases W;apply(?_,by rw[e2];exact ait (hk.look z I));delta eN.m pb;symm
 .let(bs,Z,S,fW,r1,l1,fr1):=om.end f;rw[az] at Z;let O:z7 C H' D bs:=⟨fW,λb G=>l1 b G,λb G=>by
   let(i,hi,e):=pQ G;exact(r1 i b (by grind) ks[i] (cY Å)).2⟩
  let em:bs.map eN.m=(ks.map aA.m).map (pb p.classes side):=by
   rw[cV];exact Cz Z λi b x j h2=>(r1 i b j x h2).1
  let oJ:=J.same S;let hf:=hk.dg;apply(_,Á,_,Á,bc oJ.l.pl T.cP T.nZ Åx ⟨p.gl,Á,⟨_,aa.of oJ.l.gl⟩,λY cK=>gy (K:=K) (a:=p.gl) (xs:=p.ak.map λg=>V.ref g.a) (om eX cg.a (λi b=>∀g,p.ak[i]? =some g->b.m=yo (bs.map eN.m) g.m) H' Y) Ãx (λi H2 _ f=>aa.of (f.same _ _ oJ.l.gl)) (λi y H2 hi f=>?_) Æl⟩)
  .let(g,j,rfl):=iA hi;let I:=bI j;let eA:=(bH.mp j).1;let MJ:=J.dg;apply(Á,eM ⟨_,Á,_,Á,D,bs,g,Á,O.same f.same,by omega,(oJ.l.sub I).same f.same,J.flags g I,J.cells g I,λM y s3 e1 ls fr=>?_⟩);apply om.step cK Å f s3 y (λk' W=>?_) ls fr;symm
  .let(gs,oj,s2,fh,r2,l2,U):=om.end f;rw[az] at oj;apply wD Á λx dx M hx iW aU e3 s3=>?_;apply k M ⟨x,dx,Y,side,gs⟩ (S.trans į) Á ?_ Ào λy hy=>?_
   .delta qG;rw[cV,<-em];exact Cz oj λi b x j h2=>r2 i b j x h2
   .simp only[qF,a0] at hy;rcases hy with rfl|rfl|hy
    .exact e3
    .exact s3 _ _ fh
    .let(b,G,hy):=kZ.mp hy;exact s3 _ _ (l2 b G y hy)
   .simp only[qF,a0] at hy;rcases hy with rfl|rfl|hy
    .exact(S.trans s2).free hx
    .exact S.free cK
    .let(b,G,hy):=kZ.mp hy;exact S.free (U b G y hy)
end
def in_nums(x:Nat)(l:LN):vS (.int (x:Nat)) Èa=l.contains x:=by
 rw[Lo];grind
def F2(h:i<l.length):Èa[i]? =some (.int ((l.getD i 0:Nat):Int)):=by
 symm
def iH(y:cg):y.m.length=y.ls.length:=by delta cg.m;rw[az]
def CA{y:cg}{i:Nat}{x:c6}(h:y.ls[i]? =some x):y.m.getD i []=x.ns:=by delta cg.m;rw[getD_map h]
def yq(U:Nat)(h:LN)(seen:br):Bool:=(List.range seen.length).all λi=>(seen.getD i []).contains (h.getD (U+i) 0)
inductive MK(vs:au)(H:Hp)(Q:VK)(E':XK):Prop
 |mk (um:Nat) (h:c6) (y:cg) (_:vs=[.int (um:Nat),.ref h.a,.ref y.a]) (_:aV H (lsN h)) (_:aV H Æx) (_:um+y.ls.length<=h.ns.length) (_:y.ls.length<=100) (_:∀H',ai H H'->Q (.bl (yq um h.ns y.m)) H')
section
variable{P:Pg}{w:Wd}{K:FR}{mg:MG}{base:Heap}{CK CL CS N CV:Addr}{C:Cs}
def ML:bO ["place","hoist","kinds_seen","number","kinds"] ["place","hoist","kinds_seen"] (aZ KR):=cu
def aix{f:Addr}{fd:FD}(F:bu K "fits_at" "fits_at" KR f fd)(Y:mg "all"=none)(Z:mg "enumerate"=none):Ì aE 1 f fd ["place","hoist","kinds_seen"] MK:=by
 refine F.ok ML Â;let(U,h,y,rfl,O,G,iT,zj,k):=h;refine⟨_,aD (a7 (df (vT Á) Ô Y yR (ae (eE (own:=[("number",3),("kinds",4)]) (g:=g2 K 3 4) (te:=bX (Ep K false) (bX Ż ϓ (bX aa2 ϔ ŗ)) Ãy) Á ML.nd
   (lu Ô Z ŧ) Ë
   (λ_ _ _ _ _=>iL 3 4 ML.nd) Ö
   (λ_ _ _ _ _=>jF IZ (cA cZ ã (eS qZ Û ø) Ø) Ĵ (by with_unfolding_all rfl))) ag))),?_⟩
 refine⟨_,Á,y.a,_,Á,aa.of (jO G),λD hD=>lY (K:=K) (a:=y.a) (xs:=y.ls.map λx=>V.ref x.a) (ck H D λi v ns=>ns=[]/\v=.bl ((y.m.getD i []).contains (h.ns.getD (U+i) 0))) ĉ (λi H' _ f=>aa.of (f.same _ _ (jO G))) Ŏ û⟩
 .let(l,z,rfl):=iA hi;let W:=bI z;let eA:=(bH.mp z).1;let S:ai H' (ϥ (.tup [.int (i:Nat),.ref l.a])):=aK hT;let J:=f.same.trans S;refine ß;apply(_,Á,_,Á,_,Á,_,_,Á,Á,h.a,_,_,.int ((h.ns.getD (U+i) 0:Nat):Int),Á,Á,aa.of (J _ _ (Cv O)),fU (j:=U+i) (F2 Å),_,Á,l.a,_,Á,.inl (aa.of (J _ _ (mY G W))),Á,B7 _,?_);refine f.step hD Å S ų aV.nil Ä;rw[CA z,<-in_nums];rfl
 .let(ys,S,M,I,fl):=f.end;rw[az] at I;apply(D,(List.range y.ls.length).map λi=>(y.m.getD i []).contains (h.ns.getD (U+i) 0),Á,aa.of (FZ M I λi v e=>?_),?_)
  .let(ns,(_,e),_):=fl i v e;omega
  .let q:=k H' S;delta yq at q;rw[iH] at q;symm
def oo(below:Bool)(u:Nat):Nat:=if below=true then 0 else u
def tF(above:Bool)(u:Nat):Nat:=if above=true then u else 0
def MM(a b:Bool)(u:Nat)(h:LN)(seen:br):Bool:=(List.range (tF a u+1-oo b u)).any λi=>yq (oo b u+i) h seen
def vc(h:LN)(g:iO)(seen:br):Bool:=MM g.above g.below (h.length-g.flags.length) h seen
inductive MN(C:Cs)(vs:au)(H:Hp)(Q:VK)(E':XK):Prop
 |mk (h:c6) (g:cw) (y:cg) (_:vs=[.ref h.a,.ref g.a,.ref y.a]) (_:aV H (lsN h)) (_:Lies H Æv) (_:aV H Æx) (_:y.ls.length=g.flags.length) (_:g.flags.length<=h.ns.length) (_:h.ns.length<=100) (_:∀H',ai H H'->Q (.bl (vc h.ns g.m y.m)) H')
def z9:bO ["hoist","glimpse","kinds_seen","unseen","first","last","place"] ["hoist","glimpse","kinds_seen"] (aZ KQ):=cu
def aiy(F:bu K "hoist_fits" "hoist_fits" KQ f fd)(T:mJ K C)(tL:mg "len"=none)(tA:mg "any"=none)(tR:mg "range"=none)(O:Ç 1 "fits_at" ["place","hoist","kinds_seen"] MK):Ì aE 2 f fd ["hoist","glimpse","kinds_seen"] (MN C):=by
 refine F.ok z9 Â;let(h,g,y,rfl,I,G,Y,sP,iT,zj,k):=h;refine⟨_,aB (cq 3 z9.nd (eS rg ć Œ))
  (aB (cq 4 z9.nd (sJ (jD ŀ) bp ø))
  (aB (cq 5 z9.nd (sJ (jD ŀ) ø bp))
  (aD (a7 (df (Ri rfl) Ô tA boot_any (ae (eE (own:=[("place",6)]) (te:=ie MK [] E0 (bq (ay 6) (bq ϔ (bq ś dQ)))) rfl z9.nd (aaB Ô tR (ae Ĵ (ae (eS qZ Äo bp) ag))) Ë
   (λ_ _ _ _ _=>dw 6 z9.nd) Ö (λ_ _ _ _ _=>bx O (ae Ãu (ae Û ŧ)))) ag)))))),?_⟩
 let S:((h.ns.length:Nat):Int)-((g.flags.length:Nat):Int)=((h.ns.length-g.flags.length:Nat):Int):=by omega
 apply(_,Á,h.a,_,Á,.inl (aa.of (Cv I)),_,Á,bc G.ga T.cG T.wx (wu g) ⟨g.l,_,Á,.inl (aa.of G.fl),_,_,Á,Á,?_⟩);dsimp only;rw[d7,jw,az,S];let k:=k;delta vc at k;rw[show g.m.flags.length=g.flags.length by delta cw.m;rw[az],show g.m.above=g.above from rfl,show g.m.below=g.below from rfl] at k;generalize hu:h.ns.length-g.flags.length=u at k;delta MM at k;apply EV g.below (.int ((oo g.below u:Nat):Int)) (λK q=>⟨_,Á,bc G.ga T.cG T.Ts (Tq g) ⟨_,Á,q⟩⟩) ϯ (λe K q=>Ģ) ?_
 .rw[e] at q;exact q
 .rw[e] at q;exact q
 .dsimp only;apply Sz (Sy g.above (.int ((tF g.above u:Nat):Int)) (λK q=>⟨_,Á,bc G.ga T.cG T.Tr (Tp g) ⟨_,Á,q⟩⟩) (λe K q=>Ģ) ϯ ?_)
  .rw[e] at q;exact q
  .rw[e] at q;exact q
  .let J:oo g.below u<=u:=by delta oo;split <;> omega
   let M:tF g.above u<=u:=by delta tF;split <;> omega
   generalize oo g.below u=j at J k;generalize tF g.above u=z at M k;apply(_,Á,_,Á,_,_,Á,Á,(j:Int),((z:Int)+1),Á,⟨by omega,by omega,by omega,by omega⟩,λD hD=>?_);rw[show(((z:Nat):Int)+1-(j:Nat)).toNat=z+1-j by omega];refine Eu (lo:=(j:Int)) (n:=z+1-j) (ck H D λi v ns=>ns=[]/\v=.bl (yq (j+i) h.ns y.m)) ĉ Âp û
   .apply(Á,eM ⟨_,Á,_,Á,_,Á,j+i,h,y,?_,aV.same I f.same,aV.same Y f.same,by omega,by omega,λH3 Z=>?_⟩)
    .rfl
    .exact f.step hD Å Z ⟨Á,Á⟩ aV.nil Ä
   .let(ys,s1,U,W,fl):=f.end;apply(D,(List.range (z+1-j)).map λi=>yq (j+i) h.ns y.m,Á,aa.of (FZ U W λi v e=>?_),?_)
    .let(ns,(_,e),_):=fl i v e;omega
    .symm
def mZ:br->List iO->List br->Bool
 |h::hs,g::gs,s::ss=>vc h g s&&mZ hs gs ss
 |_,_,_=>true
inductive MO(C:Cs)(CV:Addr)(vs:au)(H:Hp)(Q:VK)(E':XK):Prop
 |mk (y:cg) (p:eT) (v:vb) (_:vs=[.ref y.a,.ref p.a,.ref v.a]) (_:aV H Æx) (_:wV C H p) (_:aV H Æb) (_:y.ls.length=p.ak.length) (_:v.gs.length=p.ak.length) (_:(∀(i:Nat)(h:c6)(g:cw)(s:cg),y.ls[i]? =some h->p.ak[i]? =some g->v.gs[i]? =some s->s.ls.length=g.flags.length/\g.flags.length<=h.ns.length/\h.ns.length<=100)) (_:∀H',ai H H'->Q (.bl (mZ y.m ñ ϱ)) H')
theorem aiz(hs:br):∀(gs:List iO)(ss:List br),hs.length=gs.length->ss.length=gs.length->mZ hs gs ss=(List.range hs.length).all λi=>vc (hs.getD i []) (gs.getD i ⟨false,false,[]⟩) (ss.getD i []):=by
 induction hs with
 |nil=>
  intro gs ss j h2;cases gs with
  |nil=>cases ss with
   |nil=>rfl
   |cons _ _=>cases h2
  |cons _ _=>cases j
 |cons h hs I=>
  intro gs ss j h2;cases gs with
  |nil=>cases j
  |cons g gs=>cases ss with
   |nil=>cases h2
   |cons s ss=>
    let I:=I gs ss (À j) (À h2);delta mZ;rw[I,dc,DO,so,sr];rfl
def MP:bO ["hoists","plate","view","j","hoist"] ["hoists","plate","view"] (aZ KP):=cu
def aiA{f:Addr}{fd:FD}(F:bu K "fits" "fits" KP f fd)(T:mJ K C)(W:jN K CV ["side","glimpses"])(tA:mg "all"=none)(tE:mg "enumerate"=none)(dF:Ç 2 "hoist_fits" ["hoist","glimpse","kinds_seen"] (MN C)):Ì aE 3 f fd ["hoists","plate","view"] (MO C CV):=by
 refine F.ok MP Â;let(y,p,v,rfl,U,I,O,fc,jq,ax,k):=h;refine⟨_,aD (a7 (df (vT Á) Ô tA yR (ae (eE (own:=[("j",3),("hoist",4)]) (g:=g2 K 3 4) (te:=ie (MN C) [] E0 (bq Ãy (bq (bX Ż (fQ K ϓ "glimpses") ŗ) (bq (bX Ż (fQ K ś "glimpses") ŗ) dQ)))) Á MP.nd
   (Âv) Ë
   (λ_ _ _ _ _=>iL 3 4 MP.nd) Ö
   (λ_ _ _ _ _=>bx dF (ae Ĵ (ae (cA cZ ŀ ø Ø) (ae (cA cZ (bg ç rfl) ø Ø) ag))))) ag))),?_⟩
 let zj:=I.dg;rw[aiz _ _ _ (by rw[iH,az];exact fc) É,iH] at k;refine⟨_,Á,y.a,_,Á,aa.of (jO U),λD hD=>lY (K:=K) (a:=y.a) (xs:=y.ls.map λx=>V.ref x.a) (ck H D λi u ns=>ns=[]/\u=.bl (vc Çq ((p.ak.map cw.m).getD i ⟨false,false,[]⟩) ((v.gs.map cg.m).getD i []))) ĉ (λi H' _ f=>aa.of (f.same _ _ (jO U))) Ŏ û⟩
 .let(l,j,rfl):=iA hi;let hm:=bI j;let eA:=(bH.mp j).1;let s1:ai H' (ϥ (.tup [.int (i:Nat),.ref l.a])):=aK hT;let S:=f.same.trans s1;obtain⟨g,G⟩:∃g,p.ak[i]? =some g:=⟨_,cY Å⟩;obtain⟨z,J⟩:∃z,v.gs[i]? =some z:=⟨_,cY Å⟩;let(o1,o2,o3):=ax i l g z j G J;let M:=bI G;let Z:=bI J;refine ß;refine⟨_,Á,_,Á,bc (S _ _ I.l.pl) T.cP T.nZ Åx ⟨_,Á,p.gl,_,_,.ref g.a,Á,Á,aa.of (S _ _ I.l.gl),fU (by rw[bz,G];rfl),
   _,rfl,bc (S _ _ (U2 O)) W.1 (W.2 _ Ä) (aiq v) ⟨_,rfl,v.gl,_,_,.ref z.a,rfl,rfl,aa.of (S _ _ (air O)),fU (by rw[bz,J];rfl),l,g,z,rfl,λx hx=>?_,(I.l.sub M).same S,(ais O Z).same S,o1,o2,o3,λH3 s3=>?_⟩⟩⟩
  .exact S _ _ (U x (by delta eX;exact aP _ (kZ.mpr ⟨l,hm,hx⟩)))
  .refine f.step hD Å Ån ų aV.nil Ä;rw[CA j,getD_map G,getD_map J]
 .let(ys,s1,fW,Y,fl):=f.end;rw[az] at Y;apply(D,_,Á,aa.of (FZ (b:=λi=>vc Çq ((p.ak.map cw.m).getD i ⟨false,false,[]⟩) ((v.gs.map cg.m).getD i [])) fW Y λi v e=>?_),?_)
  .let(ns,(_,e),_):=fl i v e;omega
  .symm
end
def rS(p:Nat->Bool)(g:Nat->Int)(n:Nat):LI:=((List.range n).filter p).map g
def oq(H1:Hp)(D:Addr)(p:Nat->Bool)(g:Nat->Int)(i:Nat)(H:Hp):Prop:=ai H1 H/\H D=some (.lst (iv (rS p g i)))
def oq.zero(j:H1 D=none):oq H1 D p g 0 Č:=⟨aK j,ao⟩
def aiC(p:Nat->Bool)(g:Nat->Int)(i:Nat):(rS p g i).length<=i:=by
 delta rS;grind
def oq.yes(j:H1 D=none)(hi:i<1000000)(f:oq H1 D p g i H)(s:ai H H4)(h:p i=true)(m:v=V.int (g i)):jX D (oq H1 D p g (i+1)) v H4:=by
 subst m;apply(_,s _ _ f.2,?_,fe (f.1.trans s) j,?_)
 .rw[d7];let:=aiC p g i;exact gi Å
 .delta rS;rw[ao,Cy,af h,bZ];simp
def oq.no(f:oq H1 D p g i H)(s:ai H H4)(h:¬p i=true):oq H1 D p g (i+1) H4:=by
 apply(f.1.trans s,?_);delta rS;rw[Cy,ah h,jV];exact s _ _ f.2
def fX(H1:Hp)(D:Addr)(g:Nat->Int)(i:Nat)(H:Hp):Prop:=ai H1 H/\H D=some (.lst (iv ((List.range i).map g)))
def fX.zero(j:H1 D=none):fX H1 D g 0 Č:=⟨aK j,ao⟩
def fX.step(j:H1 D=none)(hi:i<1000000)(f:fX H1 D g i H)(s:ai H H4)(m:v=V.int (g i)):jX D (fX H1 D g (i+1)) v H4:=by
 subst m;apply(_,s _ _ f.2,?_,fe (f.1.trans s) j,?_)
 .rw[d7,az,ib];exact gi Å
 .rw[ao,HZ,bZ];simp
def lF(ms:aF)(s:Nat):Int:=(ms.getD s fu).j4
def Aa(ms:aF)(sames row:LN)(above b:Nat):Bool:=decide (lF ms ń<=(above:Int))&&decide (row.getD ((lF ms ń).toNat-1) 0=row.getD above 0)
def F3(ms:aF)(sames row:LN)(above:Nat):Int:=(rS (Aa ms sames row above) (λb=>2^b) sames.length).sum
structure CD(ms:aF)(sames:LN):Prop where
 dg:sames.length<=1000
 lt:∀s∈sames,s<ms.length
 pos:∀s∈sames,1<=lF ms s
inductive MQ(CK:Addr)(vs:au)(H:Hp)(Q:VK)(E':XK):Prop
 |mk (pk ps pr:Addr) (ks:List aA) (sames row:LN) (above:Nat) (_:vs=[.ref pk,.ref ps,.ref pr,.int (above:Nat)]) (_:ű ks) (_:H ps=some Ϲ) (_:CD Í sames) (_:H pr=some Äb) (_:above<row.length) (_:∀H',ai H H'->Q (.int (F3 Í sames row above)) H')
section
variable{P:Pg}{w:Wd}{K:FR}{mg:MG}{base:Heap}{CK CL CS N CV:Addr}{C:Cs}
def CH:bO ["kinds","sames","row","above","whiches","number","bit","which"] ["kinds","sames","row","above"] (aZ KY):=cu
def boot_sum:bootBuiltins "sum"=some (.builtin "sum"):=by decide+kernel
def aiD(F:bu K "bits_of_sames" "bits_of_sames" KY f fd)(T:tj K CK)(tS:mg "sum"=none)(tE:mg "enumerate"=none):Ì aE 1 f fd ["kinds","sames","row","above"] (MQ CK):=by
 refine F.ok CH Â;let(pk,ps,pr,ks,sames,row,above,rfl,hk,j9,M,gY,oh,k):=h;refine⟨_,aB (uO (i:=4) (own:=[("number",5)]) (te:=fQ K (bX Ż ϔ (ay 5)) "which") Á CH.nd Á Á Ô Æy Ë
   (λ_ _ _ _ _=>dw 5 CH.nd) Ö (λ_ _ _ _ _=>bg (cA cZ Û Äo Ø) rfl))
  (aD (a7 (df (Ra rfl) Ô tS boot_sum (ae (eE (own:=[("bit",6),("which",7)]) (g:=g2 K 6 7) (tt:=Ea (nM (bX (gu λi j=>.bl (decide (i<=j))) Èu ŗ)) (nM (bX oQ (bX Ż ś (bX (gu λi j=>.int (i-j)) Èu Åm)) (bX Ż ś ŗ)))) (te:=bX (rI Qy λi j=>.int (i*2^j.toNat)) Åm (ay 6)) rfl CH.nd
   (lu Ô tE Ϩ) Ë
   (λ_ _ _ _ _=>iL 6 7 CH.nd)
   (λ_ _ _ _ _=>qg (PW.pt (pw_and (cI xF Åv ø (bV _)) (pw_and1 (cI ir (cA cZ ç (eS rg Åv bp) Ø) (cA cZ ç ø Ø) (bV _))))))
   (λ_ _ _ _ _=>eS IM bp Ãu)) ag)))),?_⟩
 refine⟨_,Á,ps,Á,⟨_,aa.of j9⟩,λD hD=>gy (K:=K) (a:=ps) (xs:=iv (nv sames)) (fX H D λi=>lF Í Ń) Âg (λi H' _ f=>aa.of (f.1 _ _ j9)) Đ û⟩
 .let(z,G,rfl):=mX hi;let eA:=(bH.mp G).1;let CC:=bI G;let Y:=M.lt z CC;let U4:=M.dg;rw[az] at Y;obtain⟨b,hb⟩:∃b,ks[z]? =some b:=⟨_,cY Y⟩;apply(Á,eM ⟨_,Á,_,Á,pk,_,_,.ref b.a,Á,Á,aa.of (f.1 _ _ hk.a),fU É,bc (jv ((n8 hk.l Èe).same f.1)) T.c T.Ma (L7 b) ?_⟩);apply fX.step hD Å f Ĳ ?_;delta lF;symm
 .let hd:=f.2;let s1:=f.1;rw[d7,jw] at hd;apply(_,Á,D,_,Á,aa.of hd,λU Z=>lY (K:=K) (a:=D) (xs:=iv ((List.range sames.length).map λi=>lF Í Ń)) (oq H' U (Aa Í sames row above) (λb=>2^b)) (oq.zero Z) (λi J _ f=>aa.of (f.1 _ _ hd)) (λi x Tt J hi I hT=>?_) (λJ I=>?_))
  .let(z,G,rfl):=sX hi;rw[bz] at G;cases er:(List.range sames.length)[i]? with
   |none=>symm
   |some j=>
    rw[er] at G;let eA:=(bH.mp er).1;rw[ib] at eA;cases yf er;let G:lF Í Ń=z:=aI G;subst G;let U4:=M.dg;let U5:=M.pos Ń É;let S:ai J (upd J Tt (.tup [.int (i:Nat),.int (lF Í Ń)])):=aK hT;let O:=(s1.trans I.1).trans S;refine ï;let eb:Aa Í sames row above i=(decide (lF Í Ń<=(above:Int))&&decide (row.getD ((lF Í Ń).toNat-1) 0=row.getD above 0)):=rfl;generalize lF Í Ń=W at U5 eb S O;apply and_val (decide (W<=(above:Int))) (decide (row.getD (W.toNat-1) 0=row.getD above 0)) (λK q=>⟨_,Á,_,Á,_,_,Á,Á,_,Á,q⟩) (λhc K q=>?_) (ba Î Î)
    .let iT:=su hc;apply(_,Á,_,Á,_,_,Á,Á,pr,_,_,.int ((row.getD (W.toNat-1) 0:Nat):Int),Á,Á,aa.of (O _ _ gY),?_,_,Á,_,Á,pr,_,_,.int ((row.getD above 0:Nat):Int),Á,Á,aa.of (O _ _ gY),fU (F2 oh),Á,_,Á,?_)
     .rw[show W-1=((W.toNat-1:Nat):Int) by omega];exact fU (F2 Å)
     .rw[mj];omega
    .apply(_,Á,_,_,Á,Á,⟨by omega,by omega,by decide⟩,?_);apply I.yes Z Å S (eb.trans hc) ?_;simp
    .exact I.no S É
  .let e:=I.2;rw[d7,az,ib] at e;exact(U,_,Á,aa.of e,k J (s1.trans I.1))
end
def CI(K:FR)(t:TE):TT:=λσ H Q=>t σ H λx H'=>∃k,IQ K x H' k/\Q k H'
def tG(ms:aF)(sames row:LN)(above:Nat):Nat:=(((List.range sames.length).filter (Aa ms sames row above)).map (2^ ·)).sum
theorem aiE(l:LN):(nv l).sum=((l.sum:Nat):Int):=by
 induction l with
 |nil=>rfl
 |cons a l I=>
  symm
def aiF(ms:aF)(sames row:LN)(above:Nat):F3 ms sames row above=((tG ms sames row above:Nat):Int):=by
 delta F3 tG rS;rw[<-aiE];delta nv;rw[cV];congr 1
def qH(ms:aF)(sames row:LN):LN:=(List.range row.length).map (tG ms sames row)
inductive MR(CK:Addr)(vs:au)(H:Hp)(Q:VK)(E':XK):Prop
 |mk (pk ps pr:Addr) (ks:List aA) (sames row:LN) (_:vs=[.ref pk,.ref ps,.ref pr]) (_:ű ks) (_:H ps=some Ϲ) (_:CD Í sames) (_:H pr=some Äb) (_:row.length<=1000) (_:∀H' p,Ϧ (.lst (iv (nv (qH Í sames row))))->Q ĥ H')
def g9(g b:Nat):Bool:=Builtin.bitAnd (b:Int) (Builtin.bitNot (g:Int))!=0
def rT(g:Nat)(j:LN):Nat:=(j.filter (g9 g)).length
inductive MS(K:FR)(vs:au)(H:Hp)(Q:VK)(E':XK):Prop
 |mk (g:Nat) (pp:Addr) (places:LN) (_:vs=[.int (g:Nat),.ref pp]) (_:ä pp (iv (nv places))) (_:places.length<=1000) (_:∀H',ai H H'->Q (.int ((rT g places:Nat):Int)) H')
def yr(g b:Nat):Bool:=Builtin.bitAnd ((g:Int)/2^b) 1!=0
def rV(ms:aF)(sames:LN)(g:Nat):Int:=(rS (yr g) (λb=>(ms.getD ń fu).copies) sames.length).sum
inductive MT(CK:Addr)(vs:au)(H:Hp)(Q:VK)(E':XK):Prop
 |mk (g:Nat) (pk ps:Addr) (ks:List aA) (sames:LN) (_:vs=[.int (g:Nat),.ref pk,.ref ps]) (_:ű ks) (_:H ps=some Ϲ) (_:CD Í sames) (_:∀H',ai H H'->Q (.int (rV Í sames g)) H')
section
variable{P:Pg}{w:Wd}{K:FR}{mg:MG}{base:Heap}{CK CL CS N CV:Addr}{C:Cs}
def MU:bO ["kinds","sames","row","above"] ["kinds","sames","row"] (aZ KW):=cu
def aiG(F:bu K "sames_along" "sames_along" KW f fd)(tL:mg "len"=none)(O:mg "range"=none)(z:Ç 1 "bits_of_sames" ["kinds","sames","row","above"] (MQ CK)):Ì aE 2 f fd ["kinds","sames","row"] (MR CK):=by
 refine F.ok MU Â;let(M,ps,j,ks,sames,row,rfl,hk,J,I,G,U,k):=h;refine⟨_,aD (a7 (eE (own:=[("above",3)]) (te:=ie (MQ CK) [] E0 (bq ϔ (bq ϓ (bq ś Ãa)))) Á MU.nd (IH Ô O (ae ü ag)) Ë
  (λ_ _ _ _ _=>dw 3 MU.nd) Ö (λ_ _ _ _ _=>bx z (ae Û (ae ã (ae ç ĵ)))))),?_⟩
 apply(_,Á,j,_,Á,.inl (aa.of G),(row.length:Int),by simp,by omega,by omega,λD hD=>?_);rw[DH];refine Eu (lo:=0) (n:=row.length) (fX H D λi=>F3 Í sames row i) Âg Âp û
 .apply(Á,eM ⟨_,Á,_,Á,_,Á,_,Á,M,ps,j,ks,sames,row,i,?_,hk.same f.1,f.1 _ _ J,I,f.1 _ _ G,hi,λW S=>?_⟩)
  .simp
  .exact fX.step hD Å f S Á
 .apply k H' D ⟨f.1,hD,?_⟩;rw[f.2];delta qH nv;rw[cV];congr 3;exact kY λi _=>aiF _ _ _ i
def MV:bO ["group","places","bits"] ["group","places"] (aZ K1):=cu
def aiH(F:bu K "places_outside" "places_outside" K1 f fd)(M:mg "len"=none):Ì aE 1 f fd ["group","places"] (MS K):=by
 refine F.ok MV Â;let(g,I,places,rfl,Y,O,k):=h;refine⟨_,aD (a7 (df gc Ô M PySem.boot_len (ae (eE (own:=[("bits",2)]) (tt:=CI K (bX (gu λi j=>.int ŕ) ś (Ei (rU λi=>.int Åh) ϔ))) (te:=ay 2) Á MV.nd Æy Ë
  (λ_ _ _ _ _=>dw 2 MV.nd) (λ_ _ _ _ _=>qg (za (eS Bn ç (i8 QB Û)) Äf)) Äh) ag))),?_⟩
 refine⟨_,Á,I,Á,⟨_,Y⟩,λD G=>gy (K:=K) (a:=I) (xs:=iv (nv places)) (oq H D (λi=>g9 g Åw) (λi=>((places.getD i 0:Nat):Int))) (oq.zero G) (λi H' _ f=>f.1.seq Y) Đ û⟩
 .let(z,m,rfl):=mX hi;let S:=(bH.mp m).1;refine⟨Á,_,Á,_,Á,_,Á,_,_,Á,Á,_,Á,ba Î Î⟩
  .exact(_,Á,f.yes G Å Ĳ (by rw[getD_at m];exact hc) É)
  .exact f.no Ĳ (by rw[getD_at m];exact hc)
 .let e:=f.2;rw[d7,jw] at e;apply(D,_,Á,.inl (aa.of e),?_);let el:(iv (rS (λi=>g9 g Åw) (λi=>((places.getD i 0:Nat):Int)) places.length)).length=rT g places:=by
   rw[d7];delta rS rT;rw[az];let J:((List.range places.length).filter λi=>g9 g Åw).length=(((List.range places.length).map λi=>places.getD i 0).filter (g9 g)).length:=by
    rw[yS,az];rfl
   rw[J];let h2:=wU (l:=places) (g:=λx=>x) (d:=0);symm
  rw[el];exact k H' f.1
def MW:bO ["group","kinds","sames","bit","number"] ["group","kinds","sames"] (aZ K2):=cu
def aiI(F:bu K "copies_in" "copies_in" K2 f fd)(T:tj K CK)(tS:mg "sum"=none)(Z:mg "enumerate"=none):Ì aE 1 f fd ["group","kinds","sames"] (MT CK):=by
 refine F.ok MW Â;let(g,Y,ps,ks,sames,rfl,hk,O,I,k):=h;refine⟨_,aD (a7 (df (Ra Á) Ô tS boot_sum (ae (eE (own:=[("bit",3),("number",4)]) (g:=g2 K 3 4) (tt:=CI K (bX (gu λi j=>.int ŕ) (bX (rI (λ_ j=>0<=j) λi j=>.int (i/2^j.toNat)) ϔ ŗ) Åm)) (te:=fQ K (bX Ż ϓ Ãy) "copies") Á MW.nd
  (lu Ô Z ŧ) Ë
  (λ_ _ _ _ _=>iL 3 4 MW.nd)
  (λ_ _ _ _ _=>qg (za (eS Bn (eS Qz Û ø) bp) Äf)) (λ_ _ _ _ _=>bg (cA cZ ã Ĵ Ø) rfl)) ag))),?_⟩
 refine⟨_,Á,ps,_,Á,aa.of O,λD J=>lY (K:=K) (a:=ps) (xs:=iv (nv sames)) (oq H D (yr g) (λb=>((ks.map aA.m).getD ń fu).copies)) (oq.zero J) (λi H' _ f=>aa.of (f.1 _ _ O)) Ŏ û⟩
 .let(z,M,rfl):=mX hi;let eA:=(bH.mp M).1;let W:=bI M;let G:=I.lt z W;let U4:=I.dg;rw[az] at G;obtain⟨b,hb⟩:∃b,ks[z]? =some b:=⟨_,cY G⟩;let S:ai H' (ϥ (.tup [.int (i:Nat),.int (z:Nat)])):=aK hT;let U:=f.1.trans S;refine ï;refine⟨_,Á,_,Á,_,_,Á,Á,Ib i,_,_,Á,Á,_,Á,ba Î Î⟩
  .exact(_,Á,_,Á,Y,_,_,.ref b.a,Á,Á,aa.of (U _ _ hk.a),fU É,bc (jv ((n8 hk.l Èe).same U)) T.c T.Mb (L9 b) (f.yes J Å S hc É))
  .exact f.no S hc
 .let e:=f.2;rw[d7,jw] at e;exact(D,_,Á,aa.of e,k H' f.1)
end
def gI(n:Nat):V:=.int (n:Nat)
def oneMore(t:cj)(s:Nat):cj:=eF t s ((b7 t s).getD 0+1)
def gD(F:LN):cj:=F.foldl oneMore []
def CJ(l:LN)(s:Nat):gD (l++[s])=oneMore (gD l) s:=by
 delta gD;simp
def snoc_ind{α:Type}{P:List α->Prop}(j:P [])(hs:∀l a,P l->P (l++[a]))(l:List α):P l:=by
 let h:∀m:List α,P m.reverse:=λm=>by
  induction m with
  |nil=>exact j
  |cons a m I=>symm
 let:=h l.reverse;symm
def MX(l:LN):(gD l).length<=l.length:=by
 refine snoc_ind (P:=λl=>(gD l).length<=l.length) (bU _) Äc l;rw[CJ,lJ];let:=SC (gD l) s ((b7 (gD l) s).getD 0+1);delta oneMore;grind
def F5(l:LN):((gD l).map (·.1)).Nodup:=by
 refine snoc_ind (P:=λl=>((gD l).map (·.1)).Nodup) A3 Äc l;rw[CJ];exact EY ih
def U6(l:LN)(s:Nat):(b7 (gD l) s).getD 0=l.count s:=by
 refine snoc_ind (P:=λl=>(b7 (gD l) s).getD 0=l.count s) Á Áz l;rw[CJ];delta oneMore;rw[EX,List.count_append];by_cases h:s=x
 .subst h;rw[af rfl,ih,List.count_singleton_self];rfl
 .rw[ah h,ih,List.count_eq_zero_of_not_mem (l:=[x]) (À h)];rfl
def U7(l:LN)(s:Nat):(b7 (gD l) s).isSome=l.contains s:=by
 refine snoc_ind (P:=λl=>(b7 (gD l) s).isSome=l.contains s) Á Áz l;rw[CJ];delta oneMore;rw[EX];by_cases h:s=x
 .subst h;rw[af rfl];simp
 .rw[ah h,ih];simp[h]
def U8(h:p∈gD l):p.1∈l:=by
 let j:=zD (F5 l) (s:=p.1) (v:=p.2) h;let h2:=U7 l p.1;symm
def tH(ms:aF)(s:Nat):Int:=(ms.getD s fu).copies
def ph(ms:aF)(p:Nat×Nat):Option (Nat×Int):=if (p.2:Int)>tH ms p.1 then some (p.1,(p.2:Int)-tH ms p.1) else none
def jy(ms:aF)(F:LN):List (Nat×Int):=(gD F).filterMap (ph ms)
theorem F6(ms:aF):∀t:cj,((t.filterMap (ph ms)).map (·.1)).Sublist (t.map (·.1)):=by
 intro t;induction t with
 |nil=>exact List.Sublist.refl _
 |cons p t I=>
  let I:=I;rw[DI,aX];let j:ph ms p=none\/∃z,ph ms p=some (p.1,z):=by
   delta ph;split
   .exact .inr ⟨_,Á⟩
   .exact .inl Á
  rcases j with e|⟨z,e⟩
  .rw[e];exact List.Sublist.cons _ I
  .rw[e];exact List.Sublist.cons₂ _ I
structure MY(H:Hp)(y:cg)(n:Nat):Prop where
 l:aV H Æx
 dg:y.ls.length<=1000
 short:∀x∈y.ls,x.ns.length<=1000
 lt:∀x∈y.ls,∀s∈x.ns,s<n
inductive U9(CK:Addr)(vs:au)(H:Hp)(Q:VK)(E':XK):Prop
 |mk (pk:Addr) (ks:List aA) (y:cg) (_:vs=[.ref pk,.ref y.a]) (_:ű ks) (_:MY H y ks.length) (_:∀H' p,Ϧ (.dK (bC V.int Är))->Q ĥ H')
section
variable{P:Pg}{w:Wd}{K:FR}{mg:MG}{base:Heap}{CK CL CS N CV CP:Addr}{C:Cs}
def Va:bootBuiltins "dict"=some (.type "dict"):=by decide+kernel
def Ac:bO ["kinds","rows","used","row","sign","times"] ["kinds","rows"] (aZ KU):=cu
def aiJ(F:bu K "copies_lacking" "copies_lacking" KU f fd)(T:tj K CK)(tD:mg "dict"=none):Ì aE 1 f fd ["kinds","rows"] (U9 CK):=by
 refine F.ok Ac Â;let(pk,ks,y,rfl,hk,Y,k):=h;refine⟨_,aB (cq 2 Ac.nd Ey)
  (aB (ϐ Æy (dw 3 Ac.nd) (aD (ϐ (eV ø) (dw 4 Ac.nd)
   (aD (Jr (zu hr) ç Ĵ (eS qZ (acC (zu hr) ç Ĵ bp ⟨rfl,rfl,rfl,rfl⟩) bp) rfl)))))
  (aD (a7 (xH (acR rfl) Ô tD Va (ae (acW (eE (own:=[("sign",4),("times",5)]) (g:=g2 K 4 5) (tt:=nM (bX (gu λi j=>.bl (decide (j<i))) (ay 5) (fQ K (bX Ż ϔ Ãy) "copies")))
   (te:=xG (bq Ãy (bq (bX (gu λi j=>.int (i-j)) (ay 5) (fQ K (bX Ż ϔ Ãy) "copies")) dQ))) rfl Ac.nd (RM ç) Ë
   (λ_ _ _ _ _=>iL 4 5 Ac.nd)
   (λ_ _ _ _ _=>qg (cI vQ Äo (bg (cA cZ Û Ĵ Ø) rfl) (bV _)))
   (λ_ _ _ _ _=>uH (ae Ĵ (ae (eS rg Äo (bg (cA cZ Û Ĵ Ø) rfl)) ag))))) ag))))),?_⟩
 intro d hd;let tI:ai H (upd H d Àv):=aK hd;let Vb:∀i,(y.ls.take i |>.map c6.ns).flatten.length<=1000000:=λi=>by
  let I:∀(l:List c6),(∀x∈l,x.ns.length<=1000)->(l.map c6.ns).flatten.length<=1000*l.length:=by
   intro l;induction l with
   |nil=>simp
   |cons a l ih=>
    grind
  let h2:=I (y.ls.take i) λx hx=>Y.short x (HV hx);let h3:=Y.dg;grind
 refine⟨_,Á,y.a,Á,⟨_,aa.of (tI _ _ (jO Y.l))⟩,vO (K:=K) (a:=y.a) (xs:=y.ls.map λx=>V.ref x.a) (λi σ H'=>∃v3 U,σ=[some (.ref pk),some Às,some Èx,v3,U,none]/\ai H H'/\H' d=some (.dK (bC gI (gD (y.ls.take i |>.map c6.ns).flatten))))
  ⟨none,none,rfl,tI,ao⟩ (λi σ H' _ ⟨_,_,_,s1,_⟩=>aa.of (s1 _ _ (jO Y.l))) ?_ ?_⟩
 .rintro i x σ H' hi ⟨v3,U,rfl,s1,vd⟩;let(r,I,rfl):=iA hi;let hm:=bI I;let et:=take_snoc I;let F7:=mY Y.l hm;let O:=Vb (i+1);rw[et,bZ,List.flatten_append] at O;let O:((y.ls.take i |>.map c6.ns).flatten++r.ns).length<=1000000:=by simpa using O
  refine⟨_,Á,r.a,Á,⟨_,aa.of (s1 _ _ F7)⟩,vO (K:=K) (a:=r.a) (xs:=iv (nv r.ns)) (λj σ H'=>∃U,σ=[some (.ref pk),some Às,some Èx,some (.ref r.a),U,none]/\ai H H'/\H' d=some (.dK (bC gI (gD ((y.ls.take i |>.map c6.ns).flatten++r.ns.take j)))))
   ⟨U,rfl,s1,by rw[Y7,jV];exact vd⟩ (λj σ H' _ ⟨_,_,S,_⟩=>aa.of (S _ _ F7)) ?_ ?_⟩
  .rintro j x σ G hj ⟨U,rfl,S,M⟩;let(z,hz,rfl):=mX hj;let uN:=(bH.mp hz).1;let tJ:=take_snoc hz;generalize hF:(y.ls.take i |>.map c6.ns).flatten=F0 at M O⊢;let gS:=MX (F0++r.ns.take j);rw[lJ,nr] at gS;rw[lJ] at O;generalize hT:gD (F0++r.ns.take j)=J at M gS;apply(_,Á,d,Á,.inl ⟨_,.inl M⟩,_,Á,(b7 J z).map gI,?_,((b7 J z).getD 0:Nat),1,?_,Á,_,Á,_,Á,d,_,Á,xU.k (k:=Sum.inl ((z:Nat):Int)) M (by rw[xZ];exact gi Å),?_)
   .let q:=jY.k (k:=(Sum.inl ((z:Nat):Int):Key)) M;rw[zC] at q;exact q
   .cases b7 J z <;> rfl
   .apply(_,Á,rG S hd,?_);rw[ao,tJ,<-sv,CJ,hT];delta oneMore;rw[<-BU];rfl
  .symm
 .rintro σ H' ⟨v3,U,rfl,s1,vd⟩;rw[az,lN] at vd;let ef:(y.ls.map c6.ns).flatten=y.m.flatten:=rfl;rw[ef] at vd;let hmu:=True.intro;apply(d,_,vd,hmu,λod=>?_);let sl:ai H (upd H' d Èg):=rG s1 hd;let Z:(upd H' d Èg) d=some Èg:=ao;generalize upd H' d Èg=H1 at sl Z;let gS:=MX y.m.flatten;let O:=Vb y.ls.length;rw[lN,ef] at O;let bW:∀p∈gD y.m.flatten,p.1<ks.length:=λp hp=>by
   let I:=U8 hp;let(l,hl,h2):=List.mem_flatten.mp I;delta cg.m at hl;let(x,hx,rfl):=cb.mp hl;exact Y.lt x hx _ h2
  let CM:=F5 y.m.flatten;let MZ:jy Í y.m.flatten=(gD y.m.flatten).filterMap (ph Í):=rfl;generalize gD y.m.flatten=J at Z gS bW CM MZ;refine⟨_,Á,d,od,_,Á,Z,λD hD=>ad3 (d:=d) (o:=od) (kvs:=bC gI J) (λi G=>∃ps:LA,ai H1 G/\G D=some (.lst Âe)/\ps.length<=i/\Paired (λp kv=>G p=some (.tup [kV kv.1,kv.2])) ps (bC V.int ((J.take i).filterMap (ph Í))))
   ⟨[],aK hD,ao,bU _,.nil⟩ (λi G _ ⟨_,S,_⟩=>S _ _ Z) ?_ ?_⟩
  .rintro i kk vv Tt G hi ⟨ps,S,cK,dh,W⟩ hT;let(sg,n,I,rfl,rfl):=JK gI hi;let eA:=(bH.mp I).1;let et:=take_snoc I;let Bv:=bW _ (bI I);obtain⟨b,hb⟩:∃b,ks[sg]? =some b:=⟨_,cY Bv⟩;let qp:=bI hb;let s3:ai G (upd G Tt (.tup [.int (sg:Nat),.int (n:Nat)])):=aK hT;let s4:=(sl.trans S).trans s3;let ec:tH Í sg=b.m.copies:=by delta tH;rw[getD_map hb]
   refine ï;refine⟨_,Á,_,Á,_,Á,pk,_,_,.ref b.a,Á,Á,aa.of (s4 _ _ hk.a),fU É,bc (jv ((n8 hk.l qp).same s4)) T.c T.Mb (L9 b) ⟨_,_,Á,Á,_,Á,ba Î Î⟩⟩
   .simp at hc;apply(_,Á,_,Á,_,Á,_,Á,pk,_,_,.ref b.a,Á,Á,aa.of (s4 _ _ hk.a),fU É,bc (jv ((n8 hk.l qp).same s4)) T.c T.Mb (L9 b) ⟨_,_,Á,Á,(by show 2<=sizeLine;decide),λt ht=>?_⟩);let CO:=s3.free ht;let s5:=s3.trans (aK (o:=.tup [.int (sg:Nat),.int (((n:Nat):Int)-b.m.copies)]) ht);let M0:D≠t:=λz=>by rw[<-z,cK] at CO;cases CO
    apply(_,s5 _ _ cK,?_,ps++[t],?_,?_,?_,?_)
    .rw[az];exact gi Å
    .exact rG (S.trans s5) hD
    .rw[ao,bZ];rfl
    .symm
    .rw[et,Y8];let e1:([(sg,n)]:cj).filterMap (ph Í)=[(sg,((n:Nat):Int)-b.m.copies)]:=by
      rw[DI];delta ph;symm
     rw[e1];delta bC;rw[bZ];apply Paired.snoc (Paired.md W λp kv e=>?_) ?_
     .rw[aq (λz=>by simp_all)];exact s5 _ _ e
     .rw[aq (d8 M0)];exact ao
   .simp at hc;apply(ps,S.trans s3,s3 _ _ cK,Nat.le_succ_of_le dh,?_);rw[et,Y8];let e1:([(sg,n)]:cj).filterMap (ph Í)=[]:=by
     rw[DI];delta ph;grind
    rw[e1,jV];exact Paired.md W λp kv e=>s3 _ _ e
  .rintro G ⟨ps,S,cK,dh,W⟩;rw[xZ,lN] at W;rw[<-MZ] at W;let M:=S _ _ Z;let hDd:D≠d:=λz=>by rw[z,Z] at hD;cases hD
   let s5:ai H (upd G d (.dK (bC gI J))):=rG (sl.trans S) hd;apply(M,D,ps,_,Á,aa.of (by rw[aq hDd];exact cK),Paired.md W λp kv e=>bw.of (by rw[aq (λz=>by rw[z,M] at e;cases e)];exact e),λp hp=>?_);let aiM:((jy Í y.m.flatten).map (·.1)).Nodup:=by
    rw[MZ];exact aqx (F6 _ J) CM
   let em:=ad9 V.int Är [] aiM;rw[yT] at em;apply k _ p ⟨s5.trans (aK hp),s5.free hp,?_⟩;rw[ao];exact cJ (λz=>some (HO.dK z)) em
end
def gL(x:c6):V:=.ref x.a
def oneAt(t:List (Nat×LN))(p:Nat×Nat):List (Nat×LN):=eF t p.1 ((b7 t p.1).getD []++[p.2])
def iZ(ps:cj):List (Nat×LN):=ps.foldl oneAt []
def CU(l:cj)(p:Nat×Nat):iZ (l++[p])=oneAt (iZ l) p:=by
 delta iZ;simp
def places_len(l:cj):(iZ l).length<=l.length:=by
 refine snoc_ind (P:=λl=>(iZ l).length<=l.length) (bU _) Äc l;rw[CU,lJ];let:=SC (iZ l) s.1 ((b7 (iZ l) s.1).getD []++[s.2]);delta oneAt;grind
def Vc(l:cj)(s:Nat):(b7 (iZ l) s).getD []=(l.filter λp=>decide (p.1=s)).map (·.2):=by
 refine snoc_ind (P:=λl=>(b7 (iZ l) s).getD []=(l.filter λp=>decide (p.1=s)).map (·.2)) Á Áz l;rw[CU,DT,bZ,<-ih];delta oneAt;rw[EX];by_cases h:s=x.1
 .rw[af h,xu,af (by simp[h]),h];rfl
 .rw[ah h,xu,ah (by simpa using λe=>h e.symm)];simp
def Vd(l:cj){s:Nat}{x:LN}(h:b7 (iZ l) s=some x):x.length<=l.length:=by
 let:=Vc l s;grind
def cont(p:Nat×c6):Nat×LN:=(p.1,p.2.ns)
structure CW(H0 H:Hp)(d:Addr)(t:List (Nat×c6)):Prop where
 d:H d=some (.dK (bC gL t))
 l:∀p∈t,H p.2.a=some (.lst (iv (nv p.2.ns)))
 nd:(t.map λp=>p.2.a).Nodup
 fr:∀p∈t,H0 p.2.a=none
theorem Ad(t:List (Nat×c6))(s:Nat):b7 Âc s=(b7 t s).map c6.ns:=by
 induction t with
 |nil=>rfl
 |cons p t I=>
  delta b7 at I⊢;rw[aX,kW,kW,show(cont p).1=p.1 from rfl];cases decide (p.1=s) with
  |true=>rfl
  |false=>exact I
def Ve(t:List (Nat×c6))(s:Nat)(x:c6):(eF t s x).map cont=eF Âc s x.ns:=by
 delta eF;rw[ql,ql,Ad,DP];split
 .rw[cV,cV];apply kY λp _=>?_;show cont (if p.1=s then (p.1,x) else p)=if p.1=s then (p.1,x.ns) else cont p;split <;> rfl
 .rw[bZ];rfl
def aiN{t:List (Nat×c6)}{s:Nat}{x y:c6}(h:b7 t s=some x)(e:y.a=x.a)(j:(t.map (·.1)).Nodup):bC gL (eF t s y)=bC gL t:=by
 delta eF;rw[ql,h,af (show(some x).isSome=true from rfl)];delta bC;rw[cV];apply kY λp m=>?_;show((Sum.inl (((if p.1=s then (p.1,y) else p).1:Nat):Int):Key),gL (if p.1=s then (p.1,y) else p).2)=(Sum.inl ((p.1:Nat):Int),gL p.2);by_cases c:p.1=s
 .rw[af c];let:=zD j (s:=s) (v:=p.2) (by grind);rw[h] at this;cases this;delta gL;rw[e]
 .symm
def aiO{t:List (Nat×c6)}{s:Nat}{x y:c6}(h:b7 t s=some x)(e:y.a=x.a)(j:(t.map (·.1)).Nodup):((eF t s y).map λp=>p.2.a)=t.map λp=>p.2.a:=by
 delta eF;rw[ql,h,af (show(some x).isSome=true from rfl),cV];apply kY λp m=>?_;show(if p.1=s then (p.1,y) else p).2.a=p.2.a;by_cases c:p.1=s
 .rw[af c];let:=zD j (s:=s) (v:=p.2) (by grind);symm
 .symm
def yu{β:Type}{t:List (Nat×β)}{s:Nat}{v:β}{p:Nat×β}(h:p∈eF t s v):p=(s,v)\/(p∈t/\p.1≠s):=by
 delta eF at h;grind
def aiP{t:List (Nat×c6)}(h:(t.map λp=>p.2.a).Nodup){p q:Nat×c6}(z:p∈t)(F:q∈t)(I:p.1≠q.1):p.2.a≠q.2.a:=by
 intro e;let(i,hi,J):=pQ z;let(j,O,M):=pQ F;let G:i=j:=by
  let m:(t.map λp=>p.2.a)[i]' É=(t.map λp=>p.2.a)[j]' É:=by
   symm
  exact(YH h).mp m
 symm
def Ae{α:Type}{l:List α}{i:Nat}{a:α}(h:l[i]? =some a):l.drop i=a::l.drop (i+1):=by
 let(j,h2):=bH.mp h;rw[<-h2];simp
def eY(rows j:br):cj:=(rows.zip j).flatMap λp=>p.1.zip p.2
inductive Vf(vs:au)(H:Hp)(Q:VK)(E':XK):Prop
 |mk (y z:cg) (_:vs=[.ref y.a,.ref z.a]) (_:aV H Æx) (_:aV H (eX z)) (_:y.ls.length=z.ls.length) (_:(∀(i:Nat)(a b:c6),y.ls[i]? =some a->z.ls[i]? =some b->a.ns.length=b.ns.length)) (_:(eY y.m z.m).length<=100000) (_:∀H' p t,ai H H'->H p=none->CW H H' p t->t.map cont=iZ Æw->Q ĥ H')
section
variable{P:Pg}{w:Wd}{K:FR}{mg:MG}{base:Heap}{CK CL CS N CV CP:Addr}{C:Cs}
def F9:bO ["rows","stands","places","row","bits","sign","here"] ["rows","stands"] (aZ KZ):=cu
inductive PcI(y z:cg)(d:Addr)(H:Hp)(i:Nat)(σ:L2.St)(H':Hp):Prop
 |mk (v3 v4 v5 v6 t:_) (_:σ=[some Às,some Åb,some Èx,v3,v4,v5,v6]) (_:ai H H') (_:CW H H' d t) (_:(t.map (·.1)).Nodup) (_:t.map cont=iZ (eY ŵ Àp))
inductive PcJ(y z:cg)(d:Addr)(H:Hp)(a b:c6)(i:Nat)(j:Nat)(σ:L2.St)(H':Hp):Prop
 |mk (v5 v6 t:_) (_:σ=[some Às,some Åb,some Èx,some (.ref a.a),some Çn,v5,v6]) (_:ai H H') (_:CW H H' d t) (_:(t.map (·.1)).Nodup) (_:t.map cont=iZ (eY ŵ Àp++(a.ns.take j).zip Ås))
def aiS{f:Addr}{fd:FD}(F:bu K "places_of" "places_of" KZ f fd)(tZ:mg "zip"=none):Ì aE 1 f fd ["rows","stands"] Vf:=by
 refine F.ok F9 Â;let(y,z,rfl,hy,hz,cO,aiT,zj,k):=h;refine⟨_,aB (cq 2 F9.nd Ey)
  (aB (ϐ (RO Ô tZ (ae Û Ř)) (iL 3 4 F9.nd)
   (aD (ϐ (RO Ô tZ (ae ø Ϩ)) (iL 5 6 F9.nd)
    (aD (pZ (Ü (aec ç Äo Ī ⟨rfl,rfl,rfl,rfl⟩) (ae Ãu ag)))))))
  Çd),?_⟩
 intro d hd;let tI:ai H (upd H d Àv):=aK hd;let qI:=jO hy;let tK:=jO hz;refine⟨_,Á,_,Á,y.a,z.a,_,_,Á,aa.of (tI _ _ qI),aa.of (tI _ _ tK),SA (K:=K) (a:=y.a) (b:=z.a) (xs:=y.ls.map λx=>V.ref x.a) (ys:=z.ls.map λx=>V.ref x.a) (by rw[az,az];exact cO)
  (PcI y z d H)
  ⟨none,none,none,none,[],rfl,tI,⟨ao,by simp,A3,by simp⟩,A3,rfl⟩ (λi σ H' _ h=>(by let(_,_,_,_,_,_,Z):=h;exact(aa.of (Z _ _ qI),aa.of (Z _ _ tK)))) ?_ ?_⟩
 .rintro i x1 x2 T1 σ H' hi hj ⟨v3,v4,v5,v6,t,rfl,Z,tb,hn,et⟩ hT1;let(a,ha,rfl):=iA hi;let(b,hb,rfl):=iA hj;let BR:=mY hy (bI ha);let j8:=mY hz Èe;let oh:=aiT i a b ha hb;let Vg:y.m[i]? =some a.ns:=by delta cg.m;rw[bz,ha];rfl
  let M3:z.m[i]? =some b.ns:=by delta cg.m;rw[bz,hb];rfl
  let eta:=take_snoc Vg;let etb:=take_snoc M3;let s2:ai H' (upd H' T1 (.tup [.ref a.a,.ref b.a])):=aK hT1;let Vh:CW H (upd H' T1 (.tup [.ref a.a,.ref b.a])) d t:=⟨s2 _ _ tb.d,λp G=>s2 _ _ (tb.l p G),tb.nd,tb.fr⟩;let bW:(y.m.take i).length=(z.m.take i).length:=by rw[nr,nr,iH,iH,cO]
  apply(T1,_,Á,bw.of ao,Á,_,_,Á,_,_,Á,Á,?_);let s3:=Z.trans s2;generalize upd H' T1 (.tup [.ref a.a,.ref b.a])=Hx at s3 Vh;let S7:∀j,(eY ŵ Àp++(a.ns.take j).zip Ås).length<=100000:=λj=>by
   let e1:eY y.m z.m=eY ŵ Àp++(a.ns.zip b.ns++eY (y.m.drop (i+1)) (z.m.drop (i+1))):=by
    let ey:y.m=y.m.take i++(a.ns::y.m.drop (i+1)):=by
     rw[<-Ae Vg];simp
    let ez:z.m=z.m.take i++(b.ns::z.m.drop (i+1)):=by
     rw[<-Ae M3];simp
    delta eY
    conv=>lhs;rw[ey,ez,Y9 bW,DN,A0,DU]
   grind
  refine⟨_,Á,_,Á,a.a,b.a,_,_,Á,aa.of (s3 _ _ BR),aa.of (s3 _ _ j8),SA (K:=K) (a:=a.a) (b:=b.a) (xs:=iv (nv a.ns)) (ys:=iv (nv b.ns)) (by rw[d7,d7,jw,jw];exact oh)
   (PcJ y z d H a b i)
   ⟨v5,v6,t,rfl,s3,Vh,hn,by rw[et];simp⟩ (λj σ H' _ h=>(by let(_,_,_,_,s4):=h;exact(aa.of (s4 _ _ BR),aa.of (s4 _ _ j8)))) ?_ ?_⟩
  .rintro j x1 x2 T2 σ H2 zE B8 ⟨v5',v6',t2,rfl,s4,W,Y,U⟩ uR;let(sg,j7,rfl):=mX zE;let(J,Vi,rfl):=mX B8;let e1:=take_snoc j7;let e2:=take_snoc Vi;let uN:=(bH.mp j7).1;let s5:ai H2 (upd H2 T2 (.tup [.int (sg:Nat),.int (J:Nat)])):=aK uR;let s6:=s4.trans s5;let I:CW H (upd H2 T2 (.tup [.int (sg:Nat),.int (J:Nat)])) d t2:=⟨s5 _ _ W.d,λp G=>s5 _ _ (W.l p G),W.nd,W.fr⟩;let Vj:iZ (eY ŵ Àp++(a.ns.take (j+1)).zip (b.ns.take (j+1)))=oneAt (iZ (eY ŵ Àp++(a.ns.take j).zip Ås)) (sg,J):=by
    rw[e1,e2,Y9 É,<-sv,<-CU];rfl
   let Ga:t2.length<=100000:=by
    let h1:(t2.map cont).length<=(eY ŵ Àp++(a.ns.take j).zip Ås).length:=by
     rw[U];exact places_len _
    grind
   apply(T2,_,Á,bw.of ao,Á,_,_,Á,_,_,Á,Á,?_);generalize upd H2 T2 (.tup [.int (sg:Nat),.int (J:Nat)])=H3 at s6 I;apply(_,Á,d,Á,.inl ⟨_,.inl I.d⟩,_,Á,dv _,λq M=>⟨_,Sum.inl ((sg:Nat):Int),(aK M) _ _ I.d,Á,(by rw[xZ];exact gi Å),λv hv=>?_,λhv=>?_⟩)
   .rw[zC] at hv;let(x,O,rfl):=yP.mp hv;let gE:=x3 O;let ot:=I.l _ gE;let S:ai H3 (upd H3 q â):=aK M;let hxq:=eQ ot M;let Ud:x.a≠d:=λe=>by rw[e,I.d] at ot;cases ot
    let hxb:x.ns.length<=1000000:=by
     let h1:=Ad t2 sg;rw[O,U] at h1;let h2:=Vd _ h1;grind
    apply(.inl ⟨Á,_,aa.of (S _ _ ot)⟩,_,Á,x.a,_,_,Á,Á,S _ _ ot,(by rw[d7,jw];exact gi Å),?_);apply(_,_,eF t2 sg ⟨x.a,x.ns++[J]⟩,Á,rG (s6.trans S) (I.fr _ gE),⟨?_,λp G=>?_,?_,λp G=>?_⟩,EY Y,?_)
    .rw[aq (d8 Ud),aiN (y:=⟨x.a,x.ns++[J]⟩) O rfl Y];exact S _ _ I.d
    .rcases yu G with rfl|⟨G,aU⟩
     .rw[ao];simp
     .rw[aq (aiP I.nd G gE aU)];exact S _ _ (I.l p G)
    .rw[aiO (y:=⟨x.a,x.ns++[J]⟩) O rfl Y];exact I.nd
    .rcases yu G with rfl|⟨G,aU⟩
     .exact I.fr (sg,x) gE
     .exact I.fr p G
    .rw[Ve,U,Vj];delta oneAt;rw[<-U,Ad,O];rfl
   .rw[zC] at hv;let O:b7 t2 sg=none:=by
     symm
    let S:ai H3 (upd H3 q â):=aK M;let Vk:q≠d:=λe=>by rw[e,I.d] at M;cases M
    let Fi:=s6.free M;let Mh:(upd (upd H3 q â) d (.dK (putK (bC gL t2) (Sum.inl ((sg:Nat):Int)) Çm))) q=some â:=by rw[aq Vk];exact ao
    apply(.inl ⟨Á,_,aa.of Mh⟩,_,Á,q,_,_,Á,Á,Mh,(by show 0<sizeLine;exact gi Å),?_);apply(_,_,eF t2 sg ⟨q,[J]⟩,Á,rG (rG (s6.trans S) hd) Fi,⟨?_,λp G=>?_,?_,λp G=>?_⟩,EY Y,?_)
    .rw[aq (d8 Vk),ao];exact cJ (λz=>some (HO.dK z)) (BU gL t2 sg ⟨q,[J]⟩)
    .rcases yu G with rfl|⟨G,aU⟩
     .rw[ao];rfl
     .let dh:=I.l p G;rw[aq (eQ dh M),aq (λe=>by rw[e,I.d] at dh;cases dh)];exact S _ _ dh
    .delta eF;rw[ql,O];show((t2++[(sg,(⟨q,[J]⟩:c6))]).map λp=>p.2.a).Nodup;rw[bZ];apply Jw I.nd λm=>?_;let(p,G,e):=cb.mp m;let dh:=I.l p G;symm
    .rcases yu G with rfl|⟨G,aU⟩
     .omega
     .exact I.fr p G
    .rw[Ve,U,Vj];delta oneAt;rw[<-U,Ad,O];rfl
  .rintro σ H2 ⟨v5,v6,t2,rfl,s4,W,Y,U⟩;apply(_,_,_,_,t2,Á,s4,W,Y,?_);rw[U,eta,etb,d7,jw,lN,AY (l:=b.ns) (i:=a.ns.length) Å];delta eY;rw[Y9 bW,A0];simp
 .rintro σ H' ⟨v3,v4,v5,v6,t,rfl,Z,tb,hn,et⟩;rw[az,AY (by rw[iH];exact bU _),AY (by rw[iH];omega)] at et;exact(_,Á,k H' d t Z hd tb et)
end
structure tO where
 a:Addr
 zs:LI
structure gG where
 a:Addr
 dx:Addr
 sm:Addr
 gp:Addr
 sp:Addr
 sames:LN
 eJ:List (Nat×tO)
 fY:LI
def gA(x:tO):V:=.ref x.a
def gU(p:Nat×tO):Nat×LI:=(p.1,p.2.zs)
def ve(p:gG):List (Str×V):=[("sames",.ref p.sm),("gaps",.ref p.gp),("spares",.ref p.sp)]
def Vl(p:gG):(ve p).lookup ("sames":Str)=some (.ref p.sm):=gZ
def M4(p:gG):(ve p).lookup ("gaps":Str)=some (.ref p.gp):=(fw Ê).trans gZ
def Vm(p:gG):(ve p).lookup ("spares":Str)=some (.ref p.sp):=(fw Ê).trans ((fw Ê).trans gZ)
structure pj(CP:Addr)(H:Hp)(p:gG):Prop where
 a:H p.a=some (.ins CP p.dx (ve p))
 sm:H p.sm=some (.lst (iv (nv p.sames)))
 gp:H p.gp=some (.dK (bC gA p.eJ))
 gl:∀q∈p.eJ,H q.2.a=some (.lst (iv q.2.zs))
 sp:H p.sp=some (.lst (iv p.fY))
def cE(z:Int):Int:=if z>0 then z else 0
def Gb(G:Nat)(l:Int)(j:LN):LI:=(List.range G).map λg=>l-((rT g j:Nat):Int)
def ou(G:Nat)(lacks:List (Nat×Int))(j:List (Nat×LN)):List (Nat×LI):=lacks.map λp=>(p.1,Gb G p.2 ((b7 j p.1).getD []))
def yw(G:Nat)(sp own:LI):LI:=(List.range G).map λg=>sp.getD g 0-cE (own.getD g 0)
def rW(G:Nat)(sp:LI)(eJ:List (Nat×LI)):LI:=eJ.foldl (λsp p=>yw G sp p.2) sp
def aiW(G:Nat)(sp own:LI):(yw G sp own).length=G:=by delta yw;rw[az,ib]
theorem Vn(G:Nat)(eJ:List (Nat×LI)):∀(sp:LI),sp.length=G->(rW G sp eJ).length=G:=by
 induction eJ with
 |nil=>exact @λsp h=>h
 |cons p eJ I=>
  intro sp h;exact I _ (aiW G sp p.2)
def aiX(G:Nat)(sp:LI)(eJ:List (Nat×LI))(p:Nat×LI):rW G sp (eJ++[p])=yw G (rW G sp eJ) p.2:=by
 delta rW;simp
def Vo(h:p∈ou G lacks Gc):p.2.length=G:=by
 delta ou at h;let(q,_,rfl):=cb.mp h;delta Gb;simp
inductive Vp(CK CP:Addr)(vs:au)(H:Hp)(Q:VK)(E':XK):Prop
 |mk (pk ps pl pp:Addr) (ks:List aA) (sames:LN) (lacks:List (Nat×Int)) (t:List (Nat×c6)) (_:vs=[.ref pk,.ref ps,.ref pl,.ref pp]) (_:ű ks) (_:H ps=some Ϲ) (_:CD Í sames) (_:sames.length<=10) (_:H pl=some ì) (_:(lacks.map (·.1)).Nodup) (_:lacks.length<=1000) (_:H pp=some (.dK (bC gL t))) (_:(∀p∈t,H p.2.a=some (.lst (iv (nv p.2.ns))))) (_:(∀p∈t,p.2.ns.length<=1000)) (_:(∀p∈lacks,(b7 t p.1).isSome=true)) (_:pp≠pl) (_:∀H' p,ai H H'->pj CP H' p->H p.a=none->H p.gp=none->p.a≠p.gp->p.sm=ps->p.sames=sames->p.eJ.map gU=ou (2^sames.length) lacks Âc->p.fY=rW (2^sames.length) ((List.range (2^sames.length)).map (rV Í sames)) Åo->Q Ãd H')
section
variable{P:Pg}{w:Wd}{K:FR}{mg:MG}{base:Heap}{CK CL CS N CV CP:Addr}{C:Cs}
def Vq:bootBuiltins "list"=some (.type "list"):=by decide+kernel
def Gd:bootBuiltins "max"=some (.builtin "max"):=by decide+kernel
def pz:bO ["kinds","sames","lacks","places","groups","gaps","sign","lack","group","spares","own"] ["kinds","sames","lacks","places"] (aZ K0):=cu
inductive PnI(pk ps pl pp gl d:Addr)(B:Hp)(G:Nat)(lacks:List (Nat×Int))(t:List (Nat×c6))(i:Nat)(σ:L2.St)(H':Hp):Prop
 |mk (v6 v7 tt:_) (_:σ=[some (.ref pk),some (.ref ps),some (.ref pl),some (.ref pp),some (.ref gl),some Èx,v6,v7,none,none,none]) (_:ai B H') (_:H' d=some ħ) (_:(∀q∈tt,H' q.2.a=some (.lst (iv q.2.zs)))) (_:(∀q∈tt,B q.2.a=none)) (_:tt.map gU=ou G (lacks.take i) Âc)
def aiZ(F:bu K "plan_of" "plan_of" K0 f fd)(TP:jN K CP ["sames","gaps","spares"])(tL:mg "len"=none)(M5:mg "list"=none)(tR:mg "range"=none)(tM:mg "max"=none)(dP:ă "Plan" CP ["sames","gaps","spares"]) (dO:Ç 1 "places_outside" ["group","places"] (MS K)) (dC:Ç 1 "copies_in" ["group","kinds","sames"] (MT CK)):Ì aE 3 f fd ["kinds","sames","lacks","places"] (Vp CK CP):=by
 refine F.ok pz Â;let(pk,ps,pl,pp,ks,sames,lacks,t,rfl,hk,j9,gC,ai0,dh,tP,Vr,yt,Ga,M6,ij,aU,k):=h;let hu:A.units+3+1<cLine:=pP Ä hr.un;refine⟨_,aB (cq 4 pz.nd (xH (ael Á) Ô M5 Vq (ae (xH aek Ô tR boot_range (ae (eS IM bp ý) ag)) ag)))
  (aB (cq 5 pz.nd Ey)
  (aB (RI (ϐ (RM ç) (iL 6 7 pz.nd)
   (aD (Jr (zu hr) Äo Ãu (eE (own:=[("group",8)]) (te:=bX (gu λi j=>.int (i-j)) Èu (ie (MS K) [] E0 (bq (ay 8) (bq (RB ŗ (ay 6)) dQ)))) rfl pz.nd (eV Ĵ) Ë
    (Ás) Ö (λ_ _ _ _ _=>eS rg Åv (bx dO (ae (pv 8) (ae (RC hu ø Ãu Ø) ag))))) rfl))))
  (aB (cq 9 pz.nd (eE (own:=[("group",8)]) (te:=ie (MT CK) [] E0 (bq (ay 8) (bq ϔ (bq ϓ dQ)))) rfl pz.nd (eV Ĵ) Ë
    (Ás) Ö (λ_ _ _ _ _=>bx dC (ae (pv 8) (ae Û Ř)))))
  (aB (RI (ϐ (ac4 Äo) (dw 10 pz.nd)
   (aD (cq 9 pz.nd (eE (own:=[("group",8)]) (te:=bX (gu λi j=>.int (i-j)) (bX Ż (ay 9) (ay 8)) (rh (λxs H Q=>∃i j,xs=[.int i,.int j]/\Q (.int (if j>i then j else i)) H) (bq Äk (bq (bX Ż (ay 10) (ay 8)) dQ)))) rfl pz.nd (eV Ĵ) Ë
    (Ás) Ö (λ_ _ _ _ _=>eS rg (cA cZ (pv 9) (pv 8) Ø) (df (IR rfl) Ô tM Gd (ae bp (ae (cA cZ (pv 10) (pv 8) Ø) ag)))))))))
  (aD (a7 (qy dP hr (ae ã (ae Äo (ae (pv 9) ag)))))))))),?_⟩
 let hG:2^sames.length<=1024:=Ic Ù ai0;let hG0:0<2^sames.length:=Nat.pow_pos Ù;apply(_,Á,ps,_,Á,.inl (aa.of j9),_,_,Á,Á,⟨by omega,by grind,by decide⟩,2^sames.length,?_,λr Ag=>⟨r,2^sames.length,Á,ao,by omega,λgl oj=>?_⟩)
 .simp
 generalize hGG:2^sames.length=G at hG hG0 oj⊢;let S:ai H (upd (upd H r (.sD 0 ((G:Nat):Int))) gl (.lst ((List.range G).map λi=>V.int ((i:Nat):Int)))):=(aK Ag).trans (aK oj);let CZ:(upd (upd H r (.sD 0 ((G:Nat):Int))) gl (.lst ((List.range G).map λi=>V.int ((i:Nat):Int)))) gl=some (.lst (iv Áf)):=by
  rw[ao];simp
 generalize upd (upd H r (.sD 0 ((G:Nat):Int))) gl (.lst ((List.range G).map λi=>V.int ((i:Nat):Int)))=H0 at S CZ;intro d hd;let l7:d≠pl:=λe=>by rw[e,S _ _ dh] at hd;cases hd
 let ai2:(Äj) pl=some ì:=by rw[aq (d8 l7)];exact S _ _ dh
 apply(pl,_,ai2,True.intro,λod=>?_);let Vs:(Âb) d=none:=by rw[aq l7];exact hd
 let Ge:(Âb) pl=some ό:=ao;let C0:∀b o,H0 b=some o->b≠pl->(Âb) b=some o:=λb o e I=>by rw[aq I];exact e
 let hB0:∀b,(Âb) b=none->H0 b=none:=λb e=>by
  by_cases I:b=pl
  .symm
  .rw[aq I] at e;exact e
 let Gf:ai Âb (upd Äj pl ό):=λb o e=>by
  by_cases I:b=pl
  .subst I;rw[ao] at e⊢;exact e
  .rw[aq I] at e⊢;rw[aq (eQ e hd)];exact e
 let Vt:(upd Äj pl ό) d=some (.dK (bC gA [])):=by rw[aq l7];exact ao
 generalize qY:upd Äj pl ό=S1 at Gf Vt;generalize hB:upd H0 pl ό=B at Vs Ge C0 hB0 Gf;let bpp:=C0 _ _ (S _ _ yt) aU;let btl:=λp hp=>C0 _ _ (S _ _ (Ga p hp)) (λe=>by grind);let Vu:=C0 _ _ CZ (λe=>by rw[e,S _ _ dh] at CZ;cases CZ);refine⟨_,Á,pl,od,_,Á,Gf _ _ Ge,ad4 (d:=pl) (o:=od) (kvs:=bC V.int lacks) (PnI pk ps pl pp gl d B G lacks t)
  ⟨none,none,[],rfl,Gf,Vt,by simp,by simp,rfl⟩ (λi σ H' _ h=>(by let(_,_,_,_,Y):=h;exact Y _ _ Ge)) ?_ ?_⟩
 .rintro i kk vv Tt σ H' hi ⟨v6,v7,tt,rfl,Y,vd,wM,hqf,qJ⟩ hT;let(sg,l,W,rfl,rfl):=JK V.int hi;let eA:=(bH.mp W).1;let et:=take_snoc W;let jr:=bI W;let(x,O):=HK.mp (ij _ jr);let O:=O;let gE:=x3 O;let s2:ai H' (ϥ (.tup [kV (Sum.inl ((sg:Nat):Int)),V.int l])):=aK hT;let s3:=Y.trans s2;apply(Tt,_,Á,bw.of ao,Á,_,_,Á,_,_,Á,Á,?_);generalize hHx:ϥ (.tup [kV (Sum.inl ((sg:Nat):Int)),V.int l])=Hx at s2 s3⊢;apply(_,Á,gl,Á,⟨_,aa.of (s3 _ _ Vu)⟩,λD hD=>gy (K:=K) (a:=gl) (xs:=iv Áf) (fX Hx D λg=>l-((rT g x.ns:Nat):Int)) Âg (λj H2 _ f=>aa.of (f.1 _ _ (s3 _ _ Vu))) (λj y H2 hj f=>?_) Æl)
  .let(z,U,rfl):=mX hj;let rq:=(bH.mp U).1;rw[ib] at rq;cases yf U;let s4:=s3.trans f.1;let tQ:=jY.k (k:=(Sum.inl ((sg:Nat):Int):Key)) (s4 _ _ bpp);rw[zC,O] at tQ;exact(Á,eM ⟨_,Á,_,Á,_,Á,_,Á,pp,_,Á,tQ,j,x.a,x.ns,Á,aa.of (s4 _ _ (btl _ gE)),M6 _ gE,λH3 s5=>⟨_,_,Á,Á,(fX.step hD Å f s5 Á)⟩⟩)
  .let fh:=f.2;rw[d7,jw,ib] at fh;let s4:=s2.trans f.1;let hDB:=s3.free hD;let ai7:=s4 _ _ vd;let htn:b7 tt sg=none:=by
    cases e:b7 tt sg with
    |none=>rfl
    |some u=>
     let h2:=x3 e;let h3:sg∈(tt.map gU).map (·.1):=cb.mpr ⟨gU (sg,u),cb.mpr ⟨_,h2,rfl⟩,rfl⟩;rw[qJ] at h3;delta ou at h3;rw[cV] at h3;let(q,J,e2):=cb.mp h3;let e2:=e2;exfalso;let CM:=tP;let e3:lacks.map (·.1)=(lacks.take i).map (·.1)++sg::(lacks.drop (i+1)).map (·.1):=by
      conv=>lhs;rw[<-HW i lacks,Ae W,bZ,aX]
     grind
   let cO:tt.length<=1000:=by
    let:(tt.map gU).length=(ou G (lacks.take i) Âc).length:=by rw[qJ]
    delta ou at this;grind
   apply(_,Á,_,Á,d,_,Á,xU.k (k:=Sum.inl ((sg:Nat):Int)) ai7 (by rw[xZ];exact gi Å),?_);let Vv:putK (bC gA tt) (Sum.inl ((sg:Nat):Int)) Àt=bC gA (tt++[(sg,⟨D,(List.range G).map λg=>l-((rT g x.ns:Nat):Int)⟩)]):=by
    let:=BU gA tt sg ⟨D,(List.range G).map λg=>l-((rT g x.ns:Nat):Int)⟩;delta eF at this;rw[ql,htn] at this;exact this
   apply(_,_,tt++[(sg,⟨D,(List.range G).map λg=>l-((rT g x.ns:Nat):Int)⟩)],Á,rG (Y.trans s4) Vs,?_,λq J=>?_,λq J=>?_,?_)
   .rw[ao];symm
   .rcases gQ.mp J with J|J
    .let h2:=s4 _ _ (wM q J);rw[aq (λe=>by simp_all)];omega
    .let:q=(sg,⟨D,(List.range G).map λg=>l-((rT g x.ns:Nat):Int)⟩):=by simpa using J
     subst this;rw[aq (λe=>by simp_all)];omega
   .grind
   .rw[et,bZ,qJ];delta ou;rw[bZ];congr 1;show[gU _]=[(sg,Gb G l ((b7 Âc sg).getD []))];rw[Ad,O];rfl
 .rintro σ H' ⟨v6,v7,tt,rfl,Y,vd,wM,hqf,qJ⟩;rw[xZ,lN] at qJ;apply(Y _ _ Ge,?_);let s5:ai H0 Èn:=λb o e=>by
   by_cases I:b=pl
   .subst I;rw[ao];rw[S _ _ dh] at e;omega
   .rw[aq I];exact Y _ _ (C0 _ _ e I)
  let Vw:(Èn) d=some ħ:=by rw[aq l7];exact vd
  let Vx:∀q∈tt,(Èn) q.2.a=some (.lst (iv q.2.zs)):=λq J=>by
   let h2:=wM q J;rw[aq (λe=>by grind)];omega
  generalize upd H' pl ì=H5 at s5 Vw Vx;let s6:=S.trans s5;let hdH:=S.free hd;let M7:=s5 _ _ CZ;apply(_,Á,gl,Á,⟨_,aa.of M7⟩,λD hD=>gy (K:=K) (a:=gl) (xs:=iv Áf) (fX H5 D λg=>rV Í sames g) Âg (λj H2 _ f=>aa.of (f.1 _ _ M7)) (λj y H2 hj f=>?_) Æl)
  .let(z,U,rfl):=mX hj;let rq:=(bH.mp U).1;rw[ib] at rq;cases yf U;let Z:=s6.trans f.1;exact(Á,eM ⟨_,Á,_,Á,_,Á,j,pk,ps,ks,sames,Á,hk.same Z,Z _ _ j9,gC,λH3 s8=>(fX.step hD Å f s8 Á)⟩)
  .let jb:=f.2;let Z:=f.1;rw[d7,jw,ib] at jb;let M8:=Z _ _ Vw;let aja:=Z _ _ M7;let Vy:=λq J=>Z _ _ (Vx q J);let s8:=s6.trans Z;let hDH:=s6.free hD;apply(d,_,M8,True.intro,λvg=>?_);let b1:(Èm) d=some Åk:=ao;let b2:∀b o,H2 b=some o->b≠d->(Èm) b=some o:=λb o e I=>by rw[aq I];exact e
   let b3:∀b o,H2 b=some Ço->(Èm) b=some Ço:=λb o e=>b2 b _ e (λz=>by simp_all);generalize upd H2 d Åk=B2 at b1 b2 b3;let ajb:((List.range G).map λg=>rV Í sames g).length=G:=by rw[az,ib]
   refine⟨_,Á,d,vg,_,Á,b1,ad5 (d:=d) (o:=vg) (kvs:=bC gA tt) (λi σ H'=>∃yO sp,σ=[some (.ref pk),some (.ref ps),some (.ref pl),some (.ref pp),some (.ref gl),some Èx,v6,v7,none,some (.ref sp),yO]/\ai B2 H'/\H' sp=some (.lst (iv (rW G ((List.range G).map λg=>rV Í sames g) ((tt.map gU).take i)))))
    ⟨none,D,rfl,ai.refl B2,b3 _ _ jb⟩ (λi σ H' _ ⟨_,_,_,M,_⟩=>M _ _ b1) ?_ ?_⟩
   .rintro i kk vv σ H' hi ⟨yO,sp,rfl,M,Ah⟩;let(sg,x,W,rfl,rfl):=JK gA hi;let jr:=bI W;let ot:=M _ _ (b3 _ _ (Vy _ jr));let uW:(tt.map gU)[i]? =some (sg,x.zs):=by rw[bz,W];rfl
    let et:=take_snoc uW;let hxG:x.zs.length=G:=Vo (p:=(sg,x.zs)) (by rw[<-qJ];exact bI uW);let hcG:=Vn G ((tt.map gU).take i) _ ajb;let Vz:=M _ _ (b3 _ _ aja);rw[et,aiX];generalize rW G ((List.range G).map λg=>rV Í sames g) ((tt.map gU).take i)=cur at Ah hcG;apply(_,Á,gl,Á,⟨_,aa.of Vz⟩,λD2 cK=>gy (K:=K) (a:=gl) (xs:=iv Áf) (fX H' D2 λg=>cur.getD g 0-cE (x.zs.getD g 0)) (fX.zero cK) (λj H3 _ f=>aa.of (f.1 _ _ Vz)) (λj y H3 hj f3=>?_) (λH3 f3=>?_))
    .let(z,U,rfl):=mX hj;let rq:=(bH.mp U).1;rw[ib] at rq;cases yf U;exact(Á,eM ⟨_,Á,_,Á,sp,_,_,.int (cur.getD j 0),Á,Á,aa.of (f3.1 _ _ Ah),fU (yn Å),_,Á,_,Á,x.a,_,_,.int (x.zs.getD j 0),Á,Á,aa.of (f3.1 _ _ ot),fU (yn É),_,_,Á,_,_,Á,Á,(fX.step cK Å f3 (ai.refl H3) Á)⟩)
    .let e3:=f3.2;rw[d7,jw,ib] at e3;exact(_,D2,Á,M.trans f3.1,e3)
   .rintro σ H' ⟨yO,sp,rfl,M,Ah⟩;rw[xZ,<-az (f:=gU),lN] at Ah;apply(M _ _ b1,?_);let oU:ai H2 (upd H' d ħ):=λb o e=>by
     by_cases I:b=d
     .subst I;rw[ao];symm
     .rw[aq I];exact M _ _ (b2 _ _ e I)
    let VA:(upd H' d ħ) sp=some (.lst (iv (rW G ((List.range G).map λg=>rV Í sames g) (tt.map gU)))):=by
     rw[aq (λe=>by rw[e,M _ _ b1] at Ah;cases Ah)];omega
    let lr:=s8.trans oU;generalize upd H' d ħ=H7 at oU VA lr;apply(_,Á,_,Á,_,Á,wD Á λx dx H8 O iW arv e8 fg=>?_);apply k H8 ⟨x,dx,ps,d,sp,sames,tt,_⟩ (lr.trans fg) ⟨e8,(lr.trans fg) _ _ j9,(oU.trans fg) _ _ M8,λq J=>(oU.trans fg) _ _ (Vy q J),fg _ _ VA⟩ (lr.free O) hdH ?_ Á Á É (by rw[hGG];rfl);intro e;let e:x=d:=e;rw[e,oU _ _ M8] at O;symm
end
def vh(g same:Nat):Bool:=Builtin.bitAnd (g:Int) (same:Int)!=0
def tU(same:Nat):Int:=if ((same:Nat):Int)!=0 then-1 else 0
def kq(b:Bool):Int:=if b=true then 1 else 0
def i0(before:LI)(bits same:Nat):LI:=(List.range before.length).map λg=>before.getD g 0+tU same+kq (g9 g bits)
def jz(before fY:LI)(bits same:Nat):LI:=(List.range fY.length).map λg=>fY.getD g 0+cE (before.getD g 0)-cE ((i0 before bits same).getD g 0)-kq (vh g same)
def vi(x y:Addr)(H H':Hp):Prop:=∀b o,H b=some o->b≠x->b≠y->H' b=some o
def vi.refl:vi x y H H:=λ_ _ e _ _=>e
def ai.x{x y:Addr}{H H':Hp}(s:ai H H'):vi x y H H':=λb o e _ _=>s b o e
def gG.own(p:gG):LA:=p.sm::p.sp::p.eJ.map λq=>q.2.a
def tV(H:Hp)(p j:gG):Prop:=∀a∈j.own,a∈p.own\/H a=none
inductive VB(CP:Addr)(vs:au)(H:Hp)(Q:VK)(E':XK):Prop
 |mk (p:gG) (sg bits same:Nat) (x:tO) (_:vs=[.ref p.a,.int (sg:Nat),.int (bits:Nat),.int (same:Nat)]) (_:pj CP H p) (_:p.a≠p.gp) (_:b7 p.eJ sg=some x) (_:x.zs.length=p.fY.length) (_:0<p.fY.length) (_:p.fY.length<=2000) (_:p.eJ.length<=2000) (_:(p.eJ.map (·.1)).Nodup) (_:((Ϭ same).any (λz=>decide (z<0))=true->∀H',ai H H'->Q (.bl false) H')) (_:((Ϭ same).any (λz=>decide (z<0))=false->∀H' p',pj CP H' p'->p'.a=p.a->p'.gp=p.gp->p'.sm=p.sm->p'.sames=p.sames->p'.eJ.map gU=eF Åo sg (Ĕ same)->p'.fY=jz x.zs p.fY bits same->vi p.a p.gp H H'->tV H p p'->Q (.bl true) H'))
theorem M9(t:List (Nat×tO))(s:Nat):b7 (t.map gU) s=(b7 t s).map tO.zs:=by
 induction t with
 |nil=>rfl
 |cons p t I=>
  delta b7 at I⊢;rw[aX,kW,kW,show(gU p).1=p.1 from rfl];cases decide (p.1=s) with
  |true=>rfl
  |false=>exact I
def ajd(t:List (Nat×tO))(s:Nat)(x:tO):(eF t s x).map gU=eF (t.map gU) s x.zs:=by
 delta eF;rw[ql,ql,M9,DP];split
 .rw[cV,cV];apply kY λp _=>?_;show gU (if p.1=s then (p.1,x) else p)=if p.1=s then (p.1,x.zs) else gU p;split <;> rfl
 .rw[bZ];rfl
section
variable{P:Pg}{w:Wd}{K:FR}{mg:MG}{base:Heap}{CK CL CS N CV CP:Addr}{C:Cs}
def VC:bootBuiltins "min"=some (.builtin "min"):=by decide+kernel
abbrev VD:au->Hp->VK->Prop:=λxs H Q=>∃i j,xs=[.int i,.int j]/\Q (.int (if j>i then j else i)) H
def wW:bO ["plan","sign","bits","same","before","needs","gaps","group","gap","spares","spare"] ["plan","sign","bits","same"] (aZ K5):=cu
def aje(F:bu K "hang" "hang" K5 f fd)(TP:jN K CP ["sames","gaps","spares"])(tE:mg "enumerate"=none)(tM:mg "max"=none)(tN:mg "min"=none):Ì aE 1 f fd ["plan","sign","bits","same"] (VB CP):=by
 refine F.ok wW Â;let(p,sg,bits,same,x,rfl,G,Gg,hx,ot,U5,Bv,oj,CM,k1,k2):=h;refine⟨_,aB (cq 4 wW.nd (RC (zu hr) Ŗ ã (λ_ _=>Á)))
  (aB (cq 5 wW.nd (sJ (za ø Äf) (i8 jE bp) bp))
  (aB (cq 6 wW.nd (eE (own:=[("group",7),("gap",8)]) (g:=g2 K 7 8)
   (te:=bX (gu λi j=>.int (i+j)) (bX (gu λi j=>.int (i+j)) (ay 8) (ay 5)) (xA (CI K (bX (gu λi j=>.int ŕ) ś (Ei (rU λi=>.int Åh) Èu))) Åm Äk)) rfl wW.nd
   (lu Ô tE Ϩ) Ë
   (λ_ _ _ _ _=>iL 7 8 wW.nd) Ö
   (λ_ _ _ _ _=>eS qZ (eS qZ (pv 8) Äo) (sJ (za (eS Bn ç (i8 QB Åv)) Äf) bp bp))))
  (aB (uO (i:=9) (own:=[("group",7),("spare",10)]) (g:=g2 K 7 10)
   (te:=bX (gu λi j=>.int (i-j)) (bX (gu λi j=>.int (i-j)) (bX (gu λi j=>.int (i+j)) (ay 10) (rh VD (bq Äk (bq (bX Ż Ãy Èu) dQ)))) (rh VD (bq Äk (bq (bX Ż (ay 6) Èu) dQ)))) (xA (CI K (bX (gu λi j=>.int ŕ) Èu ŗ)) Åm Äk)) rfl wW.nd rfl rfl Ô
   (lu Ô tE Äz) Ë
   (λ_ _ _ _ _=>iL 7 10 wW.nd) Ö
   (λ_ _ _ _ _=>eS rg (eS rg (eS qZ (pv 10) (df (IR rfl) Ô tM Gd (ae bp (ae (cA cZ Ĵ Åv Ø) ag)))) (df (IR rfl) Ô tM Gd (ae bp (ae (cA cZ Ãu Åv Ø) ag)))) (sJ (za (eS Bn Åv ø) Äf) bp bp)))
  (aB (dj (cI xE (df (Rb rfl) Ô tN VC (ae (pv 9) ag)) bp (bV _)) Âk dY)
  (aB (Jr (zu hr) Ĉ ã Ãu rfl)
  (aB (fk Û (pv 9) rfl)
  Âk)))))),?_⟩
 let gE:=x3 hx;let j3:=G.gl _ gE;let tQ:=jY.k (k:=(Sum.inl ((sg:Nat):Int):Key)) G.gp;rw[zC,hx] at tQ;apply(_,Á,bc G.a TP.1 (TP.2 _ Ä) (M4 p) ⟨_,Á,p.gp,_,Á,tQ,?_⟩);dsimp only;apply Sz (Sy (((same:Nat):Int)!=0) (.int (tU same)) (λK q=>⟨_,Á,_,Á,q⟩) (λe K q=>Ģ) ϯ ?_)
 .delta tU at q;symm
 .delta tU at q;rw[ah É] at q;exact q
 refine⟨_,Á,x.a,_,Á,aa.of j3,λD hD=>lY (K:=K) (a:=x.a) (xs:=iv x.zs) (fX H D λg=>x.zs.getD g 0+tU same+kq (g9 g bits)) Âg (λi H' _ f=>aa.of (f.1 _ _ j3)) Áq û⟩
 .let(z,hz,rfl):=sX hi;let eA:=(bH.mp hz).1;let O:ai H' (ϥ (.tup [.int (i:Nat),.int z])):=aK hT;refine ß;apply(_,Á,_,Á,_,_,Á,Á,EV (g9 i bits) (.int (kq (g9 i bits))) (λK q=>⟨_,Á,_,Á,_,Á,_,_,Á,Á,_,Á,q⟩) ϯ ϯ ⟨_,_,Á,Á,?_⟩)
  .rw[e] at q;exact q
  .rw[e] at q;exact q
  .apply fX.step hD Å f O ?_;symm
 .let wX:=f.2;let O:=f.1;rw[d7] at wX;let wX:H' D=some (.lst (iv (Ĕ same))):=wX;let arw:(Ĕ same).length=x.zs.length:=by delta i0;rw[az,ib]
  let ajf:=O _ _ j3;let ajg:=O _ _ G.a;let VE:=O _ _ G.sp;apply(_,Á,bc ajg TP.1 (TP.2 _ Ä) (Vm p) ⟨p.sp,_,Á,aa.of VE,λI cK=>lY (K:=K) (a:=p.sp) (xs:=iv p.fY) (fX H' I λg=>p.fY.getD g 0+cE (x.zs.getD g 0)-cE ((Ĕ same).getD g 0)-kq (vh g same)) (fX.zero cK) (λi J _ f=>aa.of (f.1 _ _ VE)) (λi v Tt J hi Z hT=>?_) (λJ Z=>?_)⟩)
  .let(z,hz,rfl):=sX hi;let eA:=(bH.mp hz).1;let s2:ai J (upd J Tt (.tup [.int (i:Nat),.int z])):=aK hT;let M:=Z.1.trans s2;refine ß;refine⟨_,Á,_,Á,_,Á,x.a,_,_,.int (x.zs.getD i 0),Á,Á,aa.of (M _ _ ajf),fU (yn (by show i<x.zs.length;omega)),_,_,Á,_,_,Á,Á,
    _,rfl,_,rfl,D,_,_,.int ((Ĕ same).getD i 0),rfl,rfl,aa.of (M _ _ wX),fU (yn Å),_,_,rfl,_,_,rfl,rfl,
    EV (vh i same) (.int (kq (vh i same))) (λK q=>⟨_,rfl,_,rfl,_,_,rfl,rfl,_,rfl,q⟩) ϯ ϯ ⟨_,_,rfl,rfl,?_⟩⟩
   .rw[e] at q;exact q
   .rw[e] at q;exact q
   .apply fX.step cK Å Z s2 ?_;rw[getD_at hz];rfl
  .let U:=Z.2;let s2:=Z.1;rw[d7] at U;let U:J I=some (.lst (iv (Ϭ same))):=U;let ajh:(Ϭ same).length=p.fY.length:=by delta jz;rw[az,ib]
   let M:=O.trans s2;generalize jz x.zs p.fY bits same=S at U ajh k1 k2;refine⟨_,Á,I,S,Á,aa.of U,by omega,λm hm iT=>⟨_,_,rfl,rfl,_,rfl,ba Î Î⟩⟩
   .simp at hc;exact k1 (vD.mpr ⟨m,hm,eP hc⟩) J M
   .simp at hc;let Na:S.any (λz=>decide (z<0))=false:=by
     grind
    let k3:=k2 Na;let VF:=M _ _ G.a;let aji:=M _ _ G.gp;let arx:=s2 _ _ wX;let Gh:=hD;let Gi:=O.free cK;let ary:D≠p.gp:=λe=>by rw[e,G.gp] at Gh;cases Gh
    let arz:D≠p.a:=λe=>by rw[e,G.a] at Gh;cases Gh
    let arA:I≠p.gp:=λe=>by rw[e,G.gp] at Gi;cases Gi
    let arB:I≠p.a:=λe=>by rw[e,G.a] at Gi;cases Gi
    apply(_,Á,_,Á,bc VF TP.1 (TP.2 _ Ä) (M4 p) ⟨_,Á,p.gp,_,Á,xU.k (k:=Sum.inl ((sg:Nat):Int)) aji (by rw[xZ];exact gi Å),?_⟩);let Vv:putK (bC gA p.eJ) (Sum.inl ((sg:Nat):Int)) Àt=bC gA Àq:=BU gA p.eJ sg ⟨D,Ĕ same⟩;rw[Vv];apply(_,Á,_,Á,p.a,CP,p.dx,ve p,Á,(by rw[aq Gg];exact VF),TP.1,TP.2 _ Ä,(by show 3<1000;decide),?_);let ef:iu ("spares":Str) (.ref I) (ve p)=ve ⟨p.a,p.dx,p.sm,p.gp,I,p.sames,eF p.eJ sg ⟨D,Ĕ same⟩,S⟩:=by
     rfl
    rw[ef];let hx:∀b o,J b=some o->b≠p.a->b≠p.gp->(upd (upd J p.gp (.dK (bC gA Àq))) p.a (.ins CP p.dx (ve ⟨p.a,p.dx,p.sm,p.gp,I,p.sames,eF p.eJ sg ⟨D,Ĕ same⟩,S⟩))) b=some o:=λb o e h1 h2=>by
     rw[aq h1,aq h2];omega
    let ot:∀b o,J b=some Ço->(upd (upd J p.gp (.dK (bC gA Àq))) p.a (.ins CP p.dx (ve ⟨p.a,p.dx,p.sm,p.gp,I,p.sames,eF p.eJ sg ⟨D,Ĕ same⟩,S⟩))) b=some Ço:=λb o e=>hx b _ e (λz=>by simp_all) (λz=>by simp_all);apply k3 _ ⟨p.a,p.dx,p.sm,p.gp,I,p.sames,eF p.eJ sg ⟨D,Ĕ same⟩,S⟩ ⟨ao,ot _ _ (M _ _ G.sm),?_,λq Y=>?_,ot _ _ U⟩ Á Á Á Á (ajd _ _ _) Á (λb o e h1 h2=>hx b o (M _ _ e) h1 h2) (λa W=>?_)
    .rw[aq (d8 Gg),ao]
    .rcases yu Y with rfl|⟨Y,_⟩
     .symm
     .exact ot _ _ (M _ _ (G.gl q Y))
    .delta gG.own at W⊢;rcases a0.mp W with rfl|W
     .simp
     .rcases a0.mp W with rfl|W
      .symm
      .let(q,Y,rfl):=cb.mp W;rcases yu Y with rfl|⟨Y,_⟩
       .symm
       .grind
end
abbrev ik:=List (Nat×LI)×LI
def ox(l:LI):Bool:=!l.any λz=>decide (z<0)
def rX(st:ik)(sg bits same:Nat)(row:LI):ik:=(eF st.1 sg (i0 row bits same),jz row st.2 bits same)
def vj(sames:LN)(st:ik)(sg bits:Nat)(row:LI):LN->Option (Nat×ik)
 |[]=>none
 |b::r=>if ox (jz row st.2 bits (2^b))=true then some (sames.getD b 0,rX st sg bits (2^b) row) else vj sames st sg bits row r
def pA(n bits:Nat):LN:=(List.range n).filter (yr bits)
def oy(sames:LN)(st:ik)(sg bits:Nat):Option (Nat×ik):=match b7 st.1 sg with
 |none=>some (sg,st)
 |some row=>if ox (jz row st.2 bits 0)=true then some (sg,rX st sg bits 0 row) else vj sames st sg bits row (pA sames.length bits)
def gG.st(p:gG):ik:=(p.eJ.map gU,p.fY)
structure m3(CP:Addr)(H:Hp)(p:gG):Prop where
 ok:pj CP H p
 ne:p.a≠p.gp
 row:∀q∈p.eJ,q.2.zs.length=p.fY.length
 pos:0<p.fY.length
 dg:p.fY.length<=2000
 C2:p.eJ.length<=2000
 nd:(p.eJ.map (·.1)).Nodup
 Gj:p.sames.length<=10
def pj.same(h:pj CP H p)(s:ai H H'):pj CP H' p:=⟨s _ _ h.a,s _ _ h.sm,s _ _ h.gp,λq j=>s _ _ (h.gl q j),s _ _ h.sp⟩
def m3.same(h:m3 CP H p)(s:ai H H'):m3 CP H' p:=⟨h.ok.same s,h.ne,h.row,h.pos,h.dg,h.C2,h.nd,h.Gj⟩
def Nb(l:List (Nat×tO)):(l.map gU).map (·.1)=l.map (·.1):=by rw[cV];rfl
def VG{CP:Addr}{H H':Hp}{p j:gG}{sg bits same:Nat}{x:tO}(g:m3 CP H p)(F:b7 p.eJ sg=some x)(ok:pj CP H' j)(J:j.a=p.a)(M:j.gp=p.gp)(es:j.sames=p.sames)(z:j.eJ.map gU=eF Åo sg (Ĕ same)) (I:j.fY=jz x.zs p.fY bits same):m3 CP H' j:=by
 let m:j.fY.length=p.fY.length:=by rw[I];delta jz;rw[az,ib]
 let hk:j.eJ.map (·.1)=p.eJ.map (·.1):=by
  rw[<-Nb,z,SD,M9,F,Nb];rfl
 apply(ok,by rw[J,M];exact g.ne,λq S=>?_,by rw[m];exact g.pos,by rw[m];exact g.dg,?_,by rw[hk];exact g.nd,by rw[es];exact g.Gj)
 .let O:gU q∈eF Åo sg (Ĕ same):=by rw[<-z];exact cb.mpr ⟨q,S,Á⟩
  rcases yu O with e|⟨h2,_⟩
  .let:q.2.zs=i0 x.zs bits same:=cJ Prod.snd e;rw[this,m,<-g.row _ (x3 F)];delta i0;simp
  .let(G,U,e):=cb.mp h2;let:q.2.zs=G.2.zs:=(cJ Prod.snd e).symm;rw[this,m];exact g.row G U
 .let:=cJ List.length hk;rw[az,az] at this;rw[this];exact g.C2
inductive Nc(CP:Addr)(vs:au)(H:Hp)(Q:VK)(E':XK):Prop
 |mk (p:gG) (sg bits:Nat) (r:Nat×ik) (_:vs=[.ref p.a,.int (sg:Nat),.int (bits:Nat)]) (_:m3 CP H p) (_:oy p.sames p.st sg bits=some r) (_:∀H' p',m3 CP H' p'->p'.a=p.a->p'.gp=p.gp->p'.sames=p.sames->p'.st=r.2->vi p.a p.gp H H'->tV H p p'->Q (.int ((r.1:Nat):Int)) H')
section
variable{P:Pg}{w:Wd}{K:FR}{mg:MG}{base:Heap}{CK CL CS N CV CP:Addr}{C:Cs}
def C3:bO ["plan","sign","bits","places","place","tried"] ["plan","sign","bits"] (aZ K4):=cu
def ajj{f:Addr}{fd:FD}(F:bu K "flag_told" "flag_told" K4 f fd)(TP:jN K CP ["sames","gaps","spares"])(tL:mg "len"=none)(tR:mg "range"=none)(dH:Ç 1 "hang" ["plan","sign","bits","same"] (VB CP)):Ì aE 2 f fd ["plan","sign","bits"] (Nc CP):=by
 refine F.ok C3 Â;let(p,sg,bits,r,rfl,G,J,k):=h;refine⟨_,aB (dj (PW.pt (pw_or (nI (acu (zu hr) ã Ŗ) (by with_unfolding_all rfl)) (pw_or1 (jD (bx dH (ae Û (ae ã (ae ç (ae bp ag))))))))) Çe dY)
  (aB (uO (i:=3) (own:=[("place",4)]) (tt:=CI K (bX (gu λi j=>.int ŕ) (bX (rI (λ_ j=>0<=j) λi j=>.int (i/2^j.toNat)) ś Ãy) Åm)) (te:=ay 4) rfl C3.nd rfl rfl Ô (IH Ô tR (ae (df gc Ô tL PySem.boot_len Äz) ag)) Ë
   (λ_ _ _ _ _=>dw 4 C3.nd) (λ_ _ _ _ _=>qg (za (eS Bn (eS Qz ç Ĵ) bp) Äf)) (λ_ _ _ _ _=>pv 4))
  (aB (cq 5 C3.nd bp)
  (aB (aav qR (pY (jD (bx dH (ae Û (ae ã (ae ç (ae (eS IM bp (cA cZ ø Äo Ø)) ag))))))) (aD (aas (i:=5) C3.nd rfl Çf bp aaL)))
  (aD (a7 (cA cZ Ĉ (cA cZ ø Äo Ø) Ø)))))),?_⟩
 let tQ:=jY.k (k:=(Sum.inl ((sg:Nat):Int):Key)) G.ok.gp;rw[zC] at tQ;apply(_,Á,_,Á,bc G.ok.a TP.1 (TP.2 _ Ä) (M4 p) ⟨p.gp,_,Á,tQ,_,Á,?_⟩);let eg:=M9 p.eJ sg;cases e:b7 p.eJ sg with
 |none=>
  rw[e] at eg;let ef:oy p.sames p.st sg bits=some (sg,p.st):=by
   delta oy gG.st;symm
  rw[ef] at J;cases J;exact ba (λ_=>lx ⟨_,Á,k H p G Á Á Á Á vi.refl λa ha=>.inl ha⟩) (λhc=>absurd Á hc)
 |some x=>
  rw[e] at eg;let gE:=x3 e;let C4:=G.row _ gE;let ef:oy p.sames p.st sg bits=if ox (Ϭ 0)=true then some (sg,rX p.st sg bits 0 x.zs) else vj p.sames p.st sg bits x.zs (pA p.sames.length bits):=by
   delta oy gG.st;symm
  rw[ef] at J;apply ba (λhc=>absurd hc Ä) (λ_=>?_);apply(_,Á,_,Á,_,Á,p,sg,bits,0,x,Á,G.ok,G.ne,e,C4,G.pos,G.dg,G.C2,G.nd,λh H1 s1=>⟨_,Á,nV ?_⟩,λh H1 Y U M W em1 O Nf Ng Z Nh=>⟨_,Á,lx ?_⟩)
  .rw[ah (by delta ox;rw[h];decide)] at J;let oJ:=G.same s1;let zj:=G.Gj;apply(_,Á,bc oJ.ok.a TP.1 (TP.2 _ Ä) (Vl p) ⟨p.sm,_,Á,.inl (aa.of oJ.ok.sm),(p.sames.length:Int),by simp,by omega,by omega,λD S=>?_⟩);rw[DH];refine Eu (lo:=0) (n:=p.sames.length) (l6 H1 D (yr bits)) (l6.zero S) Âp û
   .rw[Za];refine⟨Á,_,Á,_,Á,_,_,Á,Á,Ib i,_,_,Á,Á,_,Á,ba Î Î⟩
    .exact(_,Á,f.yes S Å Ĳ hc)
    .exact f.no Ĳ hc
   .let wX:H' D=some (.lst (iv (nv (pA p.sames.length bits)))):=f.2;let s2:=s1.trans f.1;let bW:∀b∈pA p.sames.length bits,b<p.sames.length:=λb hb=>by
     delta pA at hb;symm
    let hDa:D≠p.a:=λz=>by rw[z,oJ.ok.a] at S;cases S
    let hDg:D≠p.gp:=λz=>by rw[z,oJ.ok.gp] at S;cases S
    generalize pA p.sames.length bits=pl at wX bW J;refine⟨λm σ H2=>∃j:Nat,σ=[some Ãd,some (.int (sg:Nat)),some (.int (bits:Nat)),some Àt,none,some (.int (j:Nat))]/\m=pl.length-j/\ai H H2/\H2 D=some (.lst (iv (nv pl)))/\vj p.sames p.st sg bits x.zs (pl.drop j)=some r,
     ⟨_,0,rfl,rfl,s2,wX,J⟩,?_⟩
    rintro m σ H2 ⟨j,rfl,rfl,s3,cK,I⟩;let uN:j<pl.length:=by
     cases Nat.lt_or_ge j pl.length with
     |inl h=>exact h
     |inr h=>rw[Zb h] at I;cases I
    obtain⟨b,hb⟩:∃b,pl[j]? =some b:=⟨_,cY uN⟩;let j8:=bW b Èe;rw[Ae hb] at I;let qT:=G.same s3;let Gm:(iv (nv pl))[j]? =some (.int ((b:Nat):Int)):=by
     symm
    apply(_,Á,_,Á,_,Á,_,Á,_,Á,D,_,_,.int ((b:Nat):Int),Á,Á,aa.of cK,fU Gm,_,_,Á,Á,⟨Ib b,by omega,by decide⟩,p,sg,bits,2^b,x,?_,qT.ok,G.ne,e,C4,G.pos,G.dg,G.C2,G.nd,λh H3 s4=>⟨_,Á,lx ?_⟩,λh H3 Y U M W em1 O Nf Ng Z Nh=>⟨_,Á,nV ?_⟩)
    .simp
    .delta vj at I;rw[ah (by delta ox;rw[show p.st.2=p.fY from rfl,h];decide)] at I;apply(_,λσ' H' q=>⟨_,?_,q⟩,_,Á,_,_,Á,Á,j+1,Á,Á,s3.trans s4,s4 _ _ cK,I);omega
    .delta vj at I;rw[af (by delta ox;rw[show p.st.2=p.fY from rfl,h];rfl)] at I;cases I;let rY:=Z _ _ cK hDa hDg;apply(_,Á,bc (by rw[<-M];exact U.a) TP.1 (TP.2 _ Ä) (Vl Y) ⟨_,Á,_,Á,D,_,_,.int ((b:Nat):Int),Á,Á,aa.of rY,fU Gm,Y.sm,_,_,.int ((p.sames.getD b 0:Nat):Int),Á,Á,aa.of U.sm,?_,?_⟩)
     .rw[O];exact fU (F2 j8)
     .apply k H3 Y (VG G e U M W O Nf Ng) M W O ?_ (λb o e1 h1 h2=>Z b o (s3 _ _ e1) h1 h2) (λa ha=>(Nh a ha).imp id λz=>s3.free z);delta gG.st rX;symm
  .rw[af (by delta ox;rw[h];rfl)] at J;cases J;apply(_,Á,k H1 Y (VG G e U M W O Nf Ng) M W O ?_ Z Nh);delta gG.st rX;symm
end
def oA(sames:LN):ik->cj->Option (LN×ik)
 |st,[]=>some ([],st)
 |st,p::r=>match oy sames st p.1 p.2 with
  |none=>none
  |some x=>match oA sames x.2 r with
   |none=>none
   |some y=>some (x.1::y.1,y.2)
def tV.refl:tV H p p:=λ_ h=>.inl h
def Apart(D:Addr)(p:gG):Prop:=D≠p.a/\D≠p.gp/\D∉p.own
def ajn(h:pj CP H p)(j:a∈p.own):∃l,H a=some (.lst l):=by
 delta gG.own at j;rcases a0.mp j with rfl|j
 .exact(_,h.sm)
 .rcases a0.mp j with rfl|j
  .exact(_,h.sp)
  .let(q,m,rfl):=cb.mp j;exact(_,h.gl q m)
def apart_new(h:pj CP H p)(j:H D=none):Apart D p:=by
 apply(λe=>?_,λe=>?_,λe=>?_)
 .rw[e,h.a] at j;cases j
 .rw[e,h.gp] at j;cases j
 .let(l,m):=ajn h e;symm
def Ni(h:Apart D p)(j:p'.a=p.a)(m:p'.gp=p.gp)(O:tV H p p')(z:H D≠none):Apart D p':=⟨by rw[j];exact h.1,by rw[m];exact h.2.1,λe=>(O D e).elim h.2.2 z⟩
def pj.upd(h:pj CP H p)(j:Apart D p):pj CP (upd H D o) p:=by
 let n:∀a∈p.own,a≠D:=λa z e=>j.2.2 É;apply(?_,?_,?_,λq m=>?_,?_)
 .rw[aq (d8 j.1)];exact h.a
 .rw[aq (n _ (by delta gG.own;simp))];exact h.sm
 .rw[aq (d8 j.2.1)];exact h.gp
 .rw[aq (n _ (by delta gG.own;exact aP _ (aP _ (cb.mpr ⟨q,m,Á⟩))))];exact h.gl q m
 .rw[aq (n _ (by delta gG.own;simp))];exact h.sp
def m3.upd(h:m3 CP H p)(j:Apart D p):m3 CP (upd H D o) p:=⟨h.ok.upd j,h.ne,h.row,h.pos,h.dg,h.C2,h.nd,h.Gj⟩
inductive Nj(CP:Addr)(vs:au)(H:Hp)(Q:VK)(E':XK):Prop
 |mk (p:gG) (x z:c6) (r:LN×ik) (_:vs=[.ref p.a,.ref x.a,.ref z.a]) (_:m3 CP H p) (_:aV H (lsN x)) (_:aV H (lsN z)) (_:x.ns.length=z.ns.length) (_:x.ns.length<=1000) (_:oA p.sames p.st (x.ns.zip z.ns)=some r) (_:∀H' p' q,m3 CP H' p'->p'.a=p.a->p'.gp=p.gp->p'.sames=p.sames->p'.st=r.2->vi p.a p.gp H H'->tV H p p'->H q=none->H' q=some (.lst (iv (nv r.1)))->Apart q p'->Q Çm H')
section
variable{P:Pg}{w:Wd}{K:FR}{mg:MG}{base:Heap}{CK CL CS N CV CP:Addr}{C:Cs}
def Nk:bO ["plan","row","stands","place","sign"] ["plan","row","stands"] (aZ K3):=cu
inductive HtI(CP D:Addr)(p:gG)(H:Hp)(x z:c6)(r:LN×ik)(i:Nat)(H2:Hp):Prop
 |mk (p2:gG) (fs:LN) (r2:LN×ik) (_:vi p.a p.gp H H2) (_:m3 CP H2 p2) (_:p2.a=p.a) (_:p2.gp=p.gp) (_:p2.sames=p.sames) (_:tV H p p2) (_:Apart D p2) (_:H2 D=some (.lst (iv (nv fs)))) (_:fs.length=i) (_:oA p.sames p2.st ((x.ns.zip z.ns).drop i)=some r2) (_:fs++r2.1=r.1) (_:r2.2=r.2)
def ajp(F:bu K "hoist_told" "hoist_told" K3 f fd)(tE:mg "enumerate"=none)(dF:Ç 2 "flag_told" ["plan","sign","bits"] (Nc CP)):Ì aE 3 f fd ["plan","row","stands"] (Nj CP):=by
 refine F.ok Nk Â;let(p,x,z,r,rfl,I,hx,hz,hl,jq,hh,k):=h;let J:=Cv hx;let O:=Cv hz;refine⟨_,aD (a7 (eE (own:=[("place",3),("sign",4)]) (g:=g2 K 3 4) (te:=ie (Nc CP) [] E0 (bq ϔ (bq Ãy (bq (bX Ż ś ŗ) dQ)))) Á Nk.nd
   (lu Ô tE Ř) Ë
   (λ_ _ _ _ _=>iL 3 4 Nk.nd) Ö
   (λ_ _ _ _ _=>bx dF (ae Û (ae Ĵ (ae (cA cZ ç ø Ø) ag)))))),?_⟩
 let ajq:x.a≠p.a:=λe=>by rw[e,I.ok.a] at J;cases J
 let ajr:x.a≠p.gp:=λe=>by rw[e,I.ok.gp] at J;cases J
 let ajs:z.a≠p.a:=λe=>by rw[e,I.ok.a] at O;cases O
 let ajt:z.a≠p.gp:=λe=>by rw[e,I.ok.gp] at O;cases O
 apply(_,Á,x.a,_,Á,aa.of J,λD W=>?_);let Gn:=eQ J W;let hzD:=eQ O W;let C7:=apart_new I.ok W;refine lY (K:=K) (a:=x.a) (xs:=iv (nv x.ns)) (HtI CP D p H x z r)
  ⟨p,[],r,ai.x (aK W),I.upd C7,rfl,rfl,rfl,tV.refl,C7,ao,rfl,hh,rfl,rfl⟩ (λi U _ h=>(by let(p2,fs,r2,M):=h;exact aa.of (M _ _ J ajq ajr))) ?_ ?_
 .rintro i v Tt U hi ⟨p2,fs,r2,M,g2,ea,eg,es,ow,Y,cK,gr,j,wY,Gp⟩ hT;let(sg,j7,rfl):=mX hi;let eA:=(bH.mp j7).1;obtain⟨m,Vi⟩:∃m,z.ns[i]? =some m:=⟨_,cY Å⟩;let gY:(x.ns.zip z.ns)[i]? =some (sg,m):=by
   symm
  rw[Ae gY] at j;let S:ai U (upd U Tt (.tup [.int (i:Nat),.int (sg:Nat)])):=aK hT;let Gm:(iv (nv z.ns))[i]? =some (.int ((m:Nat):Int)):=by
   symm
  delta oA at j;cases e1:oy p.sames p2.st sg m with
  |none=>symm
  |some y1=>
   rw[e1] at j;dsimp only at j;cases e2:oA p.sames y1.2 ((x.ns.zip z.ns).drop (i+1)) with
   |none=>symm
   |some y2=>
    rw[e2] at j;let j:=aI j;subst j;refine ß;generalize hHx:upd U Tt (.tup [.int (i:Nat),.int (sg:Nat)])=Hx at S;let g3:=g2.same S;apply(_,Á,_,Á,_,Á,_,Á,z.a,_,_,.int ((m:Nat):Int),Á,Á,aa.of (S _ _ (M _ _ O ajs ajt)),fU Gm,p2,sg,m,y1,by simp_all,g3,by simp_all,λH3 p3 g4 Ak Al Nl VH Am An=>?_);let C8:=S _ _ cK;let rY:=Am _ _ C8 Y.1 Y.2.1;let C9:=Ni Y Ak Al An É;apply(_,rY,by rw[d7,jw];exact gi Å,p3,fs++[y1.1],y2,λb o e Z h2=>?_,g4.upd C9,Ak.trans ea,Al.trans eg,Nl.trans es,λa ha=>?_,C9,?_,by simp_all,by simp_all,by simp_all,Gp)
    .rw[aq (eQ e W)];exact Am _ _ (S _ _ (M b o e Z h2)) É É
    .rcases An a ha with h|h
     .exact ow a h
     .apply .inr ?_;cases e:H a with
      |none=>rfl
      |some o=>
       exfalso;let G:=S.free h;by_cases Z:a=p.a
       .rw[Z,<-ea,g2.ok.a] at G;cases G
       .by_cases h2:a=p.gp
        .rw[h2,<-eg,g2.ok.gp] at G;cases G
        .rw[M a o e Z h2] at G;cases G
    .rw[ao];simp
 .rintro U ⟨p2,fs,r2,M,g2,ea,eg,es,ow,Y,cK,gr,j,wY,Gp⟩;rw[d7,jw] at gr j;rw[Zb É] at j;cases j;grind
end
def bf(ms:aF):LN:=(List.range ms.length).filter λi=>decide ((ms.getD i fu).role=1)
def fZ(ms:aF)(rows:br):br:=rows.map (qH ms Ĩ)
def Da(ms:aF)(rows:br):List (Nat×LI):=ou (2^(bf ms).length) (jy ms rows.flatten) (iZ ù)
def pB(ms:aF)(rows:br):ik:=(Da ms rows,rW (2^(bf ms).length) ((List.range (2^(bf ms).length)).map (rV ms Ĩ)) (Da ms rows))
def m4(sames:LN):ik->List cj->Option (br×ik)
 |st,[]=>some ([],st)
 |st,p::r=>match oA sames st p with
  |none=>none
  |some x=>match m4 sames x.2 r with
   |none=>none
   |some y=>some (x.1::y.1,y.2)
def m5(rows j:br):List cj:=(rows.zip j).map λp=>p.1.zip p.2
def oB(ms:aF)(rows:br):Option (Option br):=
 if jy ms rows.flatten=[] then some (some rows) else if (pB ms rows).2.any (λz=>decide (z<0))=true then some none else (m4 Ĩ Æq Ãw).map λx=>some x.1
structure wZ(ms:aF):Prop where
 dg:(bf ms).length<=10
 pos:∀s∈bf ms,1<=lF ms s
inductive Gq(CK:Addr)(vs:au)(H:Hp)(Q:VK)(E':XK):Prop
 |mk (pk:Addr) (ks:List aA) (y:cg) (r:Option br) (_:vs=[.ref pk,.ref y.a]) (_:ű ks) (_:wZ Í) (_:MY H y ks.length) (_:(y.m.flatten).length<=1000) (_:oB Í y.m=some r) (_:(∀hs,r=some hs->∀H' z,ai H H'->cg.m z=hs->aV H' (eX z)->jh H (eX z)->Q Åb H')) (_:(r=none->∀H',ai H H'->Q .aL H'))
def aju(l:cj)(s:Nat):(b7 (iZ l) s).isSome=(l.map (·.1)).contains s:=by
 refine snoc_ind (P:=λl=>(b7 (iZ l) s).isSome=(l.map (·.1)).contains s) Á Áz l;rw[CU,bZ];delta oneAt;rw[EX];by_cases h:s=x.1
 .rw[af h];simp[h]
 .rw[ah h,ih];simp[h]
def ajv(l:cj):((iZ l).map (·.1)).Nodup:=by
 refine snoc_ind (P:=λl=>((iZ l).map (·.1)).Nodup) A3 Äc l;rw[CU];exact EY ih
theorem VI:∀(rows j:br),rows.length=j.length->(∀(i:Nat)(a b:LN),rows[i]? =some a->j[i]? =some b->a.length=b.length)->(eY rows j).map (·.1)=rows.flatten:=by
 intro rows;induction rows with
 |nil=>
  intro j m _;cases j with
  |nil=>rfl
  |cons _ _=>cases m
 |cons a rows I=>
  intro j m h2;cases j with
  |nil=>cases m
  |cons b j=>
   let I:=I j (À m) λi x y z F=>h2 (i+1) x y z F;delta eY at I⊢;rw[DN,DU,bZ,I,P7];congr 1;let:=h2 0 a b rfl rfl;exact List.map_fst_zip (by show a.length<=b.length;omega)
def VJ(ms:aF)(rows:br):rows.length=(fZ ms rows).length:=by delta fZ;rw[az]
def Nm(ms:aF)(rows:br):∀(i:Nat)(a b:LN),rows[i]? =some a->ň[i]? =some b->a.length=b.length:=λi a b j h2=>by
 delta fZ at h2;rw[bz,j] at h2;cases h2;delta qH;simp
def ajw(G:Nat)(lacks:List (Nat×Int))(j:List (Nat×LN)):(ou G lacks j).map (·.1)=lacks.map (·.1):=by
 delta ou;simp
def Nn(ms:aF)(F:LN):((jy ms F).map (·.1)).Nodup:=aqx (F6 ms (gD F)) (F5 F)
def ajx(ms:aF)(F:LN):(jy ms F).length<=F.length:=by
 let j:=(F6 ms (gD F)).length_le;let h2:=MX F;rw[az,az] at j;delta jy;omega
def VL(h:p∈jy ms flat):p.1∈flat:=by
 let j:p.1∈(jy ms flat).map (·.1):=cb.mpr ⟨p,h,rfl⟩;let h2:=(F6 ms (gD flat)).subset j;let(q,m,e):=cb.mp h2;rw[<-e];exact U8 m
def ajy(h:wZ ms):CD ms Ĩ:=⟨by let:=h.dg;omega,λs hs=>by
 delta bf at hs;simpa using (kJ.mp hs).1,h.pos⟩
section
variable{P:Pg}{w:Wd}{K:FR}{mg:MG}{base:Heap}{CK CL CS N CV CP:Addr}{C:Cs}
def pC:bO ["kinds","rows","lacks","row","sames","number","kind","stands","plan"] ["kinds","rows"] (aZ KS):=cu
inductive DsI(CP D3:Addr)(p:gG)(H6:Hp)(y z:cg)(r0:br×ik)(i:Nat)(H7:Hp):Prop
 |mk (p2:gG) (zs:List c6) (r2:br×ik) (_:vi p.a p.gp H6 H7) (_:m3 CP H7 p2) (_:p2.a=p.a) (_:p2.gp=p.gp) (_:p2.sames=p.sames) (_:tV H6 p p2) (_:Apart D3 p2) (_:H7 D3=some (.lst (zs.map λx=>V.ref x.a))) (_:zs.length=i) (_:(∀x∈zs,H7 x.a=some ϋ/\Apart x.a p2/\H6 x.a=none/\x.a≠D3)) (_:m4 p.sames p2.st ((m5 y.m z.m).drop i)=some r2) (_:zs.map c6.ns++r2.1=r0.1)
def ajA(F:bu K "display_told" "display_told" KS f fd)(T:tj K CK)(TP:jN K CP ["sames","gaps","spares"])(M5:mg "list"=none)(tE:mg "enumerate"=none)(tN:mg "min"=none)(cS:Cn mg "SAME" Ţ)(dL:Ç 1 "copies_lacking" ["kinds","rows"] (U9 CK)) (dA:Ç 2 "sames_along" ["kinds","sames","row"] (MR CK)) (dP:Ç 1 "places_of" ["rows","stands"] Vf)(dO:Ç 3 "plan_of" ["kinds","sames","lacks","places"] (Vp CK CP)) (dH:Ç 3 "hoist_told" ["plan","row","stands"] (Nj CP)):Ì aE 4 f fd ["kinds","rows"] (Gq CK):=by
 refine F.ok pC Â;let(pk,ks,y,r,rfl,hk,Gr,O,gr,J,k1,k2):=h;refine⟨_,aB (cq 2 pC.nd (bx dL (ae Û Ř)))
  (aB (dj (cI (aeg hr.units) ç Ey (bV _)) (aD (a7 (eE (own:=[("row",3)]) (te:=rh (λxs H Q=>∃p ys,xs=[.ref p]/\(ä p ys\/bw K H p ys)/\∀l,H l=none->Q Åi (ϟ Ân)) Ãa) rfl pC.nd Æy Ë
   (λ_ _ _ _ _=>dw 3 pC.nd) Ö (λ_ _ _ _ _=>xH abr Ô M5 Vq ĵ)))) dY)
  (aB (cq 4 pC.nd (eE (own:=[("number",5),("kind",6)]) (g:=g2 K 5 6) (tt:=nM (bX oQ (fQ K (ay 6) "role") Åm)) (te:=ay 5) rfl pC.nd
   (Âv) Ë
   (λ_ _ _ _ _=>iL 5 6 pC.nd)
   (λ_ _ _ _ _=>qg (cI ir (bg Ãu rfl) Æz (bV _))) (λ_ _ _ _ _=>pv 5)))
  (aB (cq 7 pC.nd (eE (own:=[("row",3)]) (te:=ie (MR CK) [] E0 (bq ϔ (bq Ãy Ãa))) rfl pC.nd Æy Ë
   (λ_ _ _ _ _=>dw 3 pC.nd) Ö (λ_ _ _ _ _=>bx dA (ae Û (ae Ĵ ĵ)))))
  (aB (cq 8 pC.nd (bx dO (ae Û (ae Ĵ (ae ç (ae (bx dP (ae ã (ae Åv ag))) ag))))))
  (aB (dj (cI xE (df (Rb rfl) Ô tN VC (ae (bg (pv 8) rfl) ag)) bp (bV _)) ſ dY)
  (aD (a7 (eE (own:=[("number",5),("row",3)]) (g:=g2 K 5 3) (te:=ie (Nj CP) [] E0 (bq (ay 8) (bq ŗ (bq (bX Ż Èu (ay 5)) dQ)))) rfl pC.nd
   (lu Ô tE Ř) Ë
   (λ_ _ _ _ _=>iL 5 3 pC.nd) Ö
   (λ_ _ _ _ _=>bx dH (ae (pv 8) (ae ø (ae (cA cZ Åv Äo Ø) ag)))))))))))),?_⟩
 let qI:=jO O.l;let VM:=O.dg;apply(_,Á,_,Á,pk,ks,y,Á,hk,O,λH1 pl nL=>?_);let s1:=nL.1;let dh:=nL.2.2;let ajB:=J;delta oB at J;let tP:=Nn Í y.m.flatten;let Vr:=ajx Í y.m.flatten;let qE:∀p∈jy Í y.m.flatten,p.1∈y.m.flatten:=λp hp=>VL hp;let hG:Da Í y.m=ou (2^(bf Í).length) Är (iZ (eY y.m (fZ Í y.m))):=rfl;generalize jy Í y.m.flatten=lacks at dh J tP Vr qE hG;refine⟨_,Á,λe he=>⟨pl,e,_,Á,Á,(Èf) _ _ dh,ao,_,Á,ba Î Î⟩⟩
 .let hc:lacks=[]:=by
   cases lacks with
   |nil=>rfl
   |cons a b=>exact absurd hc (by delta bC;simp)
  rw[af hc] at J;let s2:ai H (upd H1 e Àv):=s1.trans Èf;generalize upd H1 e Àv=H2 at s2;apply(_,Á,y.a,Á,⟨_,aa.of (s2 _ _ qI)⟩,λD hD=>gy (K:=K) (a:=y.a) (xs:=y.ls.map λx=>V.ref x.a) (jx H2 D λi=>y.m.getD i []) ĉ (λi H' _ f=>aa.of (f.same _ _ (s2 _ _ qI))) (λi v H' hi f=>?_) û)
  .let(x,G,rfl):=iA hi;let U:=bI G;let eA:=(bH.mp G).1;exact(Á,eM ⟨_,Á,x.a,_,Á,.inl (aa.of (f.same _ _ (s2 _ _ (mY O.l U)))),λl hl=>(jx.step hD Å f (aK hl) hl (by rw[ao,CA G]))⟩)
  .let(z,rfl,s3,em,l1,fr):=jx.end hD f;apply k1 _ (aI J).symm H' z į ?_ l1 (jh.back fr s2);rw[em,az];let:=wU (l:=y.m) (g:=λx=>x) (d:=[]);rw[iH,List.map_id'] at this;exact this
 .let hc:¬lacks=[]:=λz=>hc (by rw[z];rfl);rw[ah hc] at J;let s2:ai H (upd H1 e Àv):=s1.trans Èf;let VN:=(aK (o:=.dK []) he) _ _ dh;generalize upd H1 e Àv=H2 at s2 VN;let wL:=hk.same s2;let hkf:=hk.dg;refine⟨_,Á,pk,_,Á,aa.of wL.a,λD hD=>lY (K:=K) (a:=pk) (xs:=ks.map λk=>V.ref k.a) (l6 H2 D λi=>decide (((ks.map aA.m).getD i fu).role=1)) (l6.zero hD) (λi H' _ f=>aa.of (f.1 _ _ wL.a)) Áq Æk⟩
  .let(b,hb,rfl):=iA hi;let eA:=(bH.mp hb).1;let s3:ai H' (ϥ (.tup [.int (i:Nat),.ref b.a])):=aK hT;refine ï;refine⟨_,Á,bc (jv ((n8 wL.l Èe).same (f.1.trans s3))) T.c T.wC (wB b) Ķ⟩;rw[show V.int 1=V.int ((1:Nat):Int) from rfl,mj];refine ba Î Î
   .exact(_,Á,f.yes hD Å s3 (by rw[getD_map hb];exact hc))
   .exact f.no s3 (by rw[getD_map hb];exact hc)
  .let gC:H3 D=some (.lst (iv (nv (bf Í)))):=by
    let:=f.2;rw[az] at this;delta bf;rw[az];exact this
   let s3:=s2.trans f.1;let ajD:=f.1 _ _ VN;let hk3:=hk.same s3;let VO:=ajy Gr;apply(_,Á,y.a,Á,⟨_,aa.of (s3 _ _ qI)⟩,λD2 cK=>gy (K:=K) (a:=y.a) (xs:=y.ls.map λx=>V.ref x.a) (jx H3 D2 λi=>qH Í (bf Í) Çq) Ãx (λi H' _ f=>aa.of (f.same _ _ (s3 _ _ qI))) (λi v H' hi f2=>?_) (λH4 f2=>?_))
   .let(x,G,rfl):=iA hi;let U:=bI G;let eA:=(bH.mp G).1;exact(Á,eM ⟨_,Á,_,Á,_,Á,pk,D,x.a,ks,bf Í,x.ns,Á,hk3.same f2.same,f2.same _ _ gC,VO,f2.same _ _ (s3 _ _ (mY O.l U)),O.short x U,λH5 q n5=>(jx.step cK Å f2 n5.1 n5.2.1 (by rw[CA G];exact n5.2.2))⟩)
   .let(z,rfl,s4,em,l4,fr4):=jx.end cK f2;let m6:z.m=fZ Í y.m:=by
     rw[em,az];let:=wU (l:=y.m) (g:=qH Í (bf Í)) (d:=[]);rw[iH] at this;exact this
    let rq:y.ls.length=z.ls.length:=by rw[<-iH,<-iH,m6];exact VJ _ _
    let VQ:∀(i:Nat)(a b:c6),y.ls[i]? =some a->z.ls[i]? =some b->a.ns.length=b.ns.length:=λi a b M h2=>Nm Í y.m i a.ns b.ns (by delta cg.m;rw[bz,M];rfl) (by rw[<-m6];delta cg.m;rw[bz,h2];rfl);let MJ:=VI y.m z.m (by rw[iH,iH];exact rq) (by rw[m6];exact Nm _ _);let arE:(eY y.m z.m).length<=1000:=by
     let:=cJ List.length MJ;rw[az] at this;omega
    let s5:=s3.trans s4;let ajF:=s4 _ _ gC;let VR:=s4 _ _ ajD;apply(_,Á,_,Á,_,Á,_,Á,_,Á,y,z,Á,aV.same O.l s5,l4,rq,VQ,by omega,λH5 pp t s6 yt tb et=>?_);let s7:=s5.trans s6;let M6:∀p∈t,p.2.ns.length<=1000:=λp hp=>by
     let(i,hi,ei):=pQ hp;let M:cont p∈iZ Æw:=by rw[<-et];exact cb.mpr ⟨p,hp,Á⟩
     let h2:=zD (ajv Æw) (s:=p.1) (v:=p.2.ns) M;let:=Vd _ h2;omega
    let ij:∀p∈lacks,(b7 t p.1).isSome=true:=λp hp=>by
     let M:=Ad t p.1;rw[et] at M;let h2:=aju Æw p.1;rw[M,MJ,DP] at h2;rw[h2];simpa using qE p hp
    let ajG:pp≠pl:=λe=>by rw[e,VR] at yt;cases yt
    apply(pk,D,pl,pp,ks,bf Í,lacks,t,Á,hk.same s7,s6 _ _ ajF,VO,Gr.dg,s6 _ _ VR,tP,by omega,tb.d,tb.l,M6,ij,ajG,λS p s8 ok zN Gg aU arF j9 Gs jb=>?_);let s9:=s7.trans s8;let VS:p.st=pB Í y.m:=by
     delta gG.st pB;rw[jb,Gs,hG,et,m6]
    let ajH:p.fY.length=2^(bf Í).length:=by
     rw[jb];exact Vn _ _ _ (by rw[az,ib])
    let h2k:2^(bf Í).length<=1024:=Ic Ù Gr.dg;let h2p:0<2^(bf Í).length:=Nat.pow_pos Ù;let oj:p.eJ.length=lacks.length:=by
     let:=cJ List.length Gs;delta ou at this;rw[az,az] at this;exact this
    let AN:m3 CP S p:=⟨ok,aU,λq I=>by rw[ajH];exact Vo (p:=gU q) (by rw[<-Gs];exact cb.mpr ⟨q,I,rfl⟩),by omega,by omega,by omega,by rw[<-Nb,Gs,ajw];exact tP,by rw[j9];exact Gr.dg⟩;let SE:p.fY=(pB Í y.m).2:=cJ Prod.snd VS;rw[<-SE] at J;refine⟨_,Á,bc ok.a TP.1 (TP.2 _ Ä) (Vm p) ⟨p.sp,p.fY,Á,aa.of ok.sp,by omega,λm hm iT=>⟨_,_,rfl,rfl,_,rfl,ba Äd Äd⟩⟩⟩
    .simp at iV;rw[af (vD.mpr ⟨m,hm,eP iV⟩)] at J;exact k2 (aI J).symm S s9
    .simp at iV;rw[ah (λe=>by
      let(z',D0,h2):=vD.mp e;let:=su h2;let:=iT z' D0;omega)] at J
     rw[<-VS,<-j9,<-m6] at J;let(r0,tW,er):=yP.mp J;let k3:=k1 r0.1 er.symm;clear J ajB k1 k2;let Gu:=s9 _ _ qI;let VT:=l4.same (s6.trans s8);let ajI:=jO VT;let ajJ:=aV.same O.l s9;let Gv:∀b o,S b=some Ço->b≠p.a/\b≠p.gp:=λb o e=>⟨λz=>(by rw[z,ok.a] at e;cases e),λz=>(by rw[z,ok.gp] at e;cases e)⟩;apply(_,Á,y.a,_,Á,aa.of Gu,λD3 rY=>?_);let C7:=apart_new ok rY;refine lY (K:=K) (a:=y.a) (xs:=y.ls.map λx=>V.ref x.a) (DsI CP D3 p S y z r0)
      ⟨p,[],r0,ai.x (aK rY),AN.upd C7,rfl,rfl,rfl,tV.refl,C7,ao,rfl,by simp,tW,rfl⟩ (λi Z _ h=>(by let(p2,zs,r2,W):=h;exact aa.of (W _ _ Gu (Gv _ _ Gu).1 (Gv _ _ Gu).2))) ?_ ?_
     .rintro i v Tt Z hi ⟨p2,zs,r2,W,g2,ea,eg,es,ow,ap,Np,Nq,yx,j,wY⟩ hT;let(x,G,rfl):=iA hi;let eA:=(bH.mp G).1;obtain⟨u,hu⟩:∃u,z.ls[i]? =some u:=⟨_,cY Å⟩;let U:=bI G;let hum:=bI hu;let Ur:=mY ajJ U;let hu6:=mY VT hum;let gY:(m5 y.m z.m)[i]? =some (x.ns.zip u.ns):=by
       delta m5 cg.m;rw[bz,(Ie (i:=i) (l₁:=y.ls.map c6.ns) (l₂:=z.ls.map c6.ns) (z:=(x.ns,u.ns))).mpr ⟨by rw[bz,G];rfl,by rw[bz,hu];rfl⟩];rfl
      rw[Ae gY] at j;delta m4 at j;cases e1:oA p.sames p2.st (x.ns.zip u.ns) with
      |none=>rw[e1] at j;cases j
      |some y1=>
       rw[e1] at j;dsimp only at j;cases e2:m4 p.sames y1.2 ((m5 y.m z.m).drop (i+1)) with
       |none=>rw[e2] at j;cases j
       |some y2=>
        rw[e2] at j;let j:=aI j;subst j;let Y:ai Z (upd Z Tt (.tup [.int (i:Nat),.ref x.a])):=aK hT;refine ß;generalize hHx:upd Z Tt (.tup [.int (i:Nat),.ref x.a])=Hx at Y;let kept:∀b o,S b=some Ço->Hx b=some Ço:=λb o e=>Y _ _ (W _ _ e (Gv _ _ e).1 (Gv _ _ e).2);apply(_,Á,_,Á,_,Á,_,Á,z.a,_,_,.ref u.a,Á,Á,aa.of (kept _ _ ajI),fU (by rw[bz,hu];rfl),p2,x,u,y1,by rw[ea];rfl,g2.same Y,λq I=>?_,λq I=>?_,VQ i x u G hu,O.short x U,by rw[es];exact e1,λH8 p3 q g3 Ak Al Nl VH Am An Nr ajM ajN=>?_)
        .simp only[lsN,a0,lO,lQ] at I;subst I;exact kept _ _ Ur
        .simp only[lsN,a0,lO,lQ] at I;subst I;exact kept _ _ hu6
        .let C8:=Y _ _ Np;let Gw:=Am _ _ C8 ap.1 ap.2.1;let C9:=Ni ap Ak Al An (by rw[C8];exact λz=>by cases z);let VU:q≠D3:=λe=>by rw[e,C8] at Nr;cases Nr
         let VV:∀a,Hx a=none->S a=none:=λa h=>by
          cases e:S a with
          |none=>rfl
          |some o=>
           exfalso;let hn:=Y.free h;by_cases M:a=p.a
           .rw[M,<-ea,g2.ok.a] at hn;cases hn
           .by_cases h2:a=p.gp
            .rw[h2,<-eg,g2.ok.gp] at hn;cases hn
            .rw[W a o e M h2] at hn;cases hn
         apply(_,Gw,by rw[az];exact gi Å,p3,zs++[⟨q,y1.1⟩],y2,λb o e M h2=>?_,g3.upd C9,Ak.trans ea,Al.trans eg,Nl.trans es,λa ha=>?_,C9,?_,by rw[lJ,Nq];rfl,λw hw=>?_,by rw[VH];exact e2,?_)
         .rw[aq (eQ e rY)];exact Am _ _ (Y _ _ (W b o e M h2)) (by rw[ea];exact M) (by rw[eg];exact h2)
         .exact(An a ha).elim (ow a) λh=>.inr (VV a h)
         .rw[ao,bZ];rfl
         .rcases gQ.mp hw with hw|hw
          .let(w1,w2,w3,w5):=yx w hw;let w4:=Y _ _ w1;apply(?_,Ni w2 Ak Al An (by rw[w4];exact λz=>by cases z),w3,w5);rw[aq w5];exact Am _ _ w4 w2.1 w2.2.1
          .let:w=⟨q,y1.1⟩:=by simpa using hw
           subst this;apply(?_,ajN,VV _ Nr,VU);rw[aq VU];exact ajM
         .rw[bZ,sv];exact wY
     .rintro Z ⟨p2,zs,r2,W,g2,ea,eg,es,ow,ap,Np,Nq,yx,j,wY⟩;rw[az] at Nq j;rw[Zb (by delta m5;rw[az,List.length_zip,iH];omega)] at j;cases j;rw[jV] at wY;let sF:=λb o e=>W b o (s9 _ _ e) (λz=>(by rw[z,s7.free zN] at e;cases e)) (λz=>(by rw[z,s7.free Gg] at e;cases e));apply k3 Z ⟨D3,zs⟩ sF wY (U1 Np λx G q I=>?_) (Cw (s9.free rY) λx G q I=>?_)
      .simp only[lsN,a0,lO,lQ] at I;subst I;exact(yx x G).1
      .simp only[lsN,a0,lO,lQ] at I;subst I;exact s9.free (yx x G).2.2.1
end
def m7(part:LI):Bool:=!(decide (part.length>64)||(JM.aJ 32 part).contains [])&&part.all λb=>decide (32<=b)&&decide (b<=126)
inductive VW(K:FR)(CB:Addr)(vs:au)(H:Hp)(Q:VK)(E:XK):Prop
 |mk (ap:Addr) (part:LI) (_:vs=[.ref ap]) (_:ä ap Ãh) (_:part.length<=100000) (_:(m7 part=true->∀H',ai H H'->Q Èy H')) (_:(m7 part=false->No E CB H))
theorem VX{K:FR}{H:Hp}:∀{qs:LA}{L:c7},eG H qs L->Áo Än (L.map λl=>PyData.list (l.map PyData.int)):=by
 intro qs L j;induction j with
 |nil=>exact .nil
 |cons h t I=>
  exact .cons (.lst (aa.of h) (rF _)) I
theorem any_empty(L:c7):((L.map λl=>PyData.list (l.map PyData.int)).any λd=>PyData.eqv d (.list []))=L.contains []:=by
 induction L with
 |nil=>rfl
 |cons l L I=>
  rw[aX,ux,I,AQ];congr 1;cases l <;> rfl
section
variable{P:Pg}{w:Wd}{K:FR}{mg:MG}{base:Heap}{CK CL CS N CV CP CB:Addr}{C:Cs}
def Nt:bO ["part","byte"] ["part"] (aZ La):=cu
def ajO{f:Addr}{fd:FD}(F:bu K "read_meaning" "read_meaning" La f fd)(tL:mg "len"=none)(tA:mg "all"=none)(X:œ "NoBook" CB N)(S:Cn mg "LONGEST_MEANING" (.int 64))(cB:Cn mg "BLANK" Åe)(cP:Cn mg "LAST_PRINTED" (.int 126))(W:Ç 1 "cut" ["text","mark"] (wq K)):Ì Ď 2 f fd ["part"] (VW K CB):=by
 refine F.qk Nt Â;let(m,part,rfl,G,hl,k1,k2):=h;refine⟨_,aB (dj (PW.pt (pw_or (cI vQ ć (cf S) (bV _)) (pw_or1 (cI (JI (pP (YX Ù _) hr.un)) Ī (bx W (ae Û ž)) (by with_unfolding_all rfl))))) ŉ dY)
  (aB (dj (pY (jD (df (vT rfl) Ô tA yR (ae (eE (own:=[("byte",1)]) (te:=IP (gu λi j=>.bl (decide (i<=j))) (gu λi j=>.bl (decide (i<=j))) (tC Åe) ϓ (tC (.int 126))) rfl Nt.nd Äu Ë
   (λ_ _ _ _ _=>dw 1 Nt.nd) Ö (λ_ _ _ _ _=>QG xF xF (cf cB) ã (cf cP))) ag)))) Ú dY)
  (aD (a7 Û))),?_⟩
 let em:m7 part=(!(decide (part.length>64)||(JM.aJ 32 part).contains [])&&part.all λb=>decide (32<=b)&&decide (b<=126)):=rfl;refine⟨_,Á,m,_,Á,.inl G,_,_,Á,Á,_,Á,ba Î Î⟩
 .let hc:part.length>64:=by
   grind
  apply lx (gM (k2 ?_));symm
 .let hc:¬part.length>64:=by
   grind
  apply(dv _,λl U=>⟨_,Á,m,32,part,Á,L2.ai.seq (aK U) G,hl,λO p qs J qC nd aU fr=>?_⟩);let s1:ai H (ϟ â):=aK U;let s2:=s1.trans J.1;let jq:=J.1 _ _ ao;apply(p,_,_,.list [],Á,aa.of J.2.2,VX qC,.lst (aa.of jq) .nil,λd hd=>?_,Á,_,Á,?_)
  .let(x,_,rfl):=cb.mp hd;exact shaped_ints x
  rw[any_empty];refine ba Äd Äd
  .apply gM ((k2 ?_).go s2);symm
  .let Y:m7 part=part.all λb=>decide (32<=b)&&decide (b<=126):=by
    symm
   refine⟨_,Á,m,Á,⟨_,s2.seq G⟩,λD hD=>gy (K:=K) (a:=m) (xs:=iv part) (ck O D λi v ns=>ns=[]/\∀b,part[i]? =some b->v=.bl (decide (32<=b)&&decide (b<=126))) ĉ (λi H' _ f=>(s2.trans f.same).seq G) Đ û⟩
   .let(z,hz,rfl):=sX hi;let eA:=(bH.mp hz).1;refine⟨Á,eM ⟨_,Á,_,_,Á,Á,_,Á,ba Ť Ť⟩⟩
    .apply(_,_,Á,Á,?_);apply f.step hD Å Ĳ ⟨Á,λb hb=>?_⟩ aV.nil Ä;symm
    .apply f.step hD Å Ĳ ⟨Á,λb hb=>?_⟩ aV.nil Ä;grind
   .let(ys,s3,nX,M,fl):=f.end;rw[d7] at M;let ey:ys=(part.map λb=>decide (32<=b)&&decide (b<=126)).map V.bl:=by
     rw[cV];apply u7 M λi y x h1 h2=>?_;let(ns,(_,e),_):=fl i y h1;symm
    apply(D,part.map λb=>decide (32<=b)&&decide (b<=126),Á,by rw[<-ey];exact aa.of nX,_,rfl,?_);rw[sr];let Z:part.all (id∘ λb=>decide (32<=b)&&decide (b<=126))=m7 part:=by rw[Y];rfl
    rw[Z];apply ba (λI=>?_) (λI=>?_)
    .exact gM ((k2 É).go į)
    .exact(_,Á,k1 É H' į)
end
abbrev keyOf(name:LI):eB:=name.map Sum.inl
def VY(name:LI):iv name=(keyOf name).map kV:=by
 delta iv keyOf;rw[cV];rfl
theorem ajQ(h:keyOf a=keyOf b):a=b:=by
 induction a generalizing b with
 |nil=>
  symm
 |cons x a I=>
  cases b with
  |nil=>cases h
  |cons y b=>
   grind
def jP(ms:aF)(i:Nat):Bool:=decide ((ms.getD i fu).role=0)
def tX(ms:aF)(n:Nat):List (LI×Nat):=((List.range n).filter (jP ms)).map λj=>((ms.getD j fu).name,j)
def jQ(ms:aF)(name:LI):Option Nat:=(tX ms ms.length).foldl (λacc p=>if p.1=name then some p.2 else acc) none
def yy(ms:aF):List (eB×V):=(tX ms ms.length).foldl (λacc p=>putK acc (keyOf p.1) (V.int ((p.2:Nat):Int))) []
def ajR(ms:aF)(name:LI):gh (yy ms) (keyOf name)=(jQ ms name).map λn=>V.int ((n:Nat):Int):=by
 delta yy jQ;let gen:∀(l:List (LI×Nat))(kvs:List (eB×V))(acc:Option Nat),gh kvs (keyOf name)=acc.map (λn=>V.int ((n:Nat):Int))->
   gh (l.foldl (λacc p=>putK acc (keyOf p.1) (V.int ((p.2:Nat):Int))) kvs) (keyOf name)=(l.foldl (λacc p=>if p.1=name then some p.2 else acc) acc).map λn=>V.int ((n:Nat):Int):=by
  intro l;induction l with
  |nil=>intro kvs acc h;exact h
  |cons p l I=>
   intro kvs acc h;rw[DV,DV];apply I _ _ ?_;rw[aci];by_cases e:p.1=name
   .rw[af e,af (by rw[e])];rfl
   .rw[ah e,ah (λz=>e (ajQ z).symm)];exact h
 exact gen _ [] none Á
def VZ(ms:aF)(i:Nat):tX ms (i+1)=tX ms i++(if jP ms i=true then [((ms.getD i fu).name,i)] else []):=by
 delta tX;rw[Cy,bZ];grind
inductive V0(CK:Addr)(vs:au)(H:Hp)(Q:VK)(E':XK):Prop
 |mk (pk:Addr) (ks:List aA) (_:vs=[.ref pk]) (_:ű ks) (_:∀H' p,Ϧ (.dT (yy Í))->Q ĥ H')
section
variable{P:Pg}{w:Wd}{K:FR}{mg:MG}{base:Heap}{CK CL CS N CV CP CB:Addr}{C:Cs}
def Nu:bO ["kinds","number","kind"] ["kinds"] (aZ K7):=cu
abbrev V1(K:FR):au->Hp->VK->Prop:=λxs H Q=>∃p ys,xs=[.ref p]/\((ä p ys/\∀l,H l=none->Q Åi (ϟ Æg))\/(ũ p ys/\Q ĥ H))
inductive NoI(D:Addr)(H:Hp)(ks:List aA)(i:Nat)(H2:Hp):Prop
 |mk (ps:LA) (ts:List (eB×Addr×V)) (_:ai H H2) (_:H2 D=some (.lst Âe)) (_:ps.length<=i) (_:Paired (λp(t:eB×Addr×V)=>H2 p=some (.tup [.ref t.2.1,t.2.2])/\H2 t.2.1=some (.tup (t.1.map kV))) ps ts) (_:ts.map (λt=>(t.1,t.2.2))=(tX Í i).map λp=>(keyOf p.1,V.int ((p.2:Nat):Int)))
def ajT(F:bu K "numbers_of_signs" "numbers_of_signs" K7 f fd)(T:tj K CK)(tD:mg "dict"=none)(tT:mg "tuple"=none)(tE:mg "enumerate"=none)(cS:Cn mg "SIGN" Ō):Ì aE 1 f fd ["kinds"] (V0 CK):=by
 refine F.ok Nu Â;let(pk,ks,rfl,hk,k):=h;let hkf:=hk.dg;refine⟨_,aD (a7 (xH (aer (pP (YX Ù _) hr.un) Á) Ô tD Va (ae (eE (own:=[("number",1),("kind",2)]) (g:=g2 K 1 2) (tt:=nM (bX oQ (fQ K ś "role") Äk))
   (te:=xG (bq (rh (V1 K) (bq (fQ K ś "name") dQ)) (bq ϓ dQ))) rfl Nu.nd
   (Âv) Ë
   (λ_ _ _ _ _=>iL 1 2 Nu.nd)
   (λ_ _ _ _ _=>qg (cI ir (bg ç rfl) Æz (bV _)))
   (λ_ _ _ _ _=>uH (ae (xH Q2 Ô tT boot_tuple Š) Ř))) ag))),?_⟩
 refine⟨_,Á,pk,_,Á,aa.of hk.a,λD hD=>lY (K:=K) (a:=pk) (xs:=ks.map λk=>V.ref k.a) (NoI D H ks)
  ⟨[],[],aK hD,ao,bU _,.nil,rfl⟩ (λi I _ h=>(by let(_,_,j):=h;exact aa.of (j _ _ hk.a))) ?_ ?_⟩
 .rintro i v Tt I hi ⟨ps,ts,j,G,dh,M,J⟩ hT;let(b,hb,rfl):=iA hi;let eA:=(bH.mp hb).1;let S:ai I (upd I Tt (.tup [.int (i:Nat),.ref b.a])):=aK hT;let s3:=j.trans S;let U:=(n8 hk.l Èe).same s3;let Y:(ks.map aA.m).getD i fu=b.m:=getD_map hb;refine ï;refine⟨_,Á,bc (jv U) T.c T.wC (wB b) Ķ⟩;rw[show V.int 0=V.int ((0:Nat):Int) from rfl,mj];generalize hHx:upd I Tt (.tup [.int (i:Nat),.ref b.a])=Hx at S s3 U;refine ba Î Î
  .apply(_,Á,bc (jv U) T.c T.nName (Uk b) ⟨b.nm,_,Á,.inl ⟨aa.of (Ux U),λl hl=>⟨_,Á,(by show 2<=sizeLine;decide),λt O=>?_⟩⟩⟩);let s4:=aK (o:=.tup (iv b.m.name)) hl;let W:=S.trans (s4.trans (aK (o:=.tup [.ref l,.int (i:Nat)]) O));let bW:l≠t:=λz=>by rw[<-z,ao] at O;cases O
   let CO:=S.free (s4.free O);let Z:l≠D:=λz=>by rw[z,S _ _ G] at hl;cases hl
   let M0:t≠D:=λz=>by rw[z,G] at CO;cases CO
   apply(_,W _ _ G,by rw[az];exact gi Å,ps++[t],ts++[(keyOf b.m.name,l,V.int ((i:Nat):Int))],rG (j.trans W) hD,?_,?_,?_,?_)
   .rw[ao,bZ];rfl
   .symm
   .refine Paired.snoc (Paired.md M λp t' e=>Áp) Áp
    .rw[aq (λz=>by simp_all)];exact W _ _ e.1
    .rw[aq (λz=>by simp_all)];exact W _ _ e.2
    .rw[aq M0];exact ao
    .rw[aq Z,aq bW,ao,VY]
   .rw[bZ,J,VZ,af (show jP Í i=true by delta jP;rw[Y];exact hc),bZ,Y];rfl
  .apply(ps,ts,j.trans S,S _ _ G,Nat.le_succ_of_le dh,Paired.md M λp t e=>⟨S _ _ e.1,S _ _ e.2⟩,?_);rw[J,VZ,ah (show ¬jP Í i=true by delta jP;rw[Y];exact hc),jV]
 .rintro I ⟨ps,ts,j,G,dh,M,J⟩;rw[az] at J;apply(D,ps,ts,Á,aa.of G,M,λp hp=>?_);apply k _ p ⟨j.trans (aK hp),j.free hp,?_⟩;rw[ao];let em:rH [] ts=yy Í:=by
   let e1:rH [] ts=(ts.map λt=>(t.1,t.2.2)).foldl (λacc p=>putK acc p.1 p.2) []:=by
    delta rH;rw[List.foldl_map]
   rw[e1,J,List.foldl_map];delta yy;simp
  rw[em]
end
def oV:Option Nat->V
 |none=>.aL
 |some n=>.int ((n:Nat):Int)
def pF(ms:aF)(part:LI):List (Option Nat):=(JM.aJ 46 part).map (jQ ms)
def w6(ms:aF)(part:LI):Option LN:=if (pF ms part).length>8\/(pF ms part).contains none=true then none else some ((pF ms part).map λo=>o.getD 0)
inductive V2(K:FR)(CB:Addr)(vs:au)(H:Hp)(Q:VK)(E:XK):Prop
 |mk (ap pn:Addr) (ms:aF) (part:LI) (_:vs=[.ref ap,.ref pn]) (_:ä ap Ãh) (_:part.length<=100000) (_:H pn=some (.dT (yy ms))) (_:(∀row,w6 ms part=some row->∀H' p,Ϧ Äb->Q ĥ H')) (_:(w6 ms part=none->No E CB H))
def ajV(l:List (Option Nat)):(l.map oV).all lW=true:=by
 rw[sr];exact kU.mpr λo _=>by cases o <;> rfl
theorem ajW(l:List (Option Nat)):vS .aL (l.map oV)=l.contains none:=by
 delta vS;rw[PB];induction l with
 |nil=>rfl
 |cons o l I=>
  rw[ux,AQ,I];congr 1;cases o <;> rfl
section
variable{P:Pg}{w:Wd}{K:FR}{mg:MG}{base:Heap}{CK CL CS N CV CP CB:Addr}{C:Cs}
def Nv:bO ["part","numbers","row","name"] ["part","numbers"] (aZ K9):=cu
def ajX(F:bu K "read_signs" "read_signs" K9 f fd)(tL:mg "len"=none)(tT:mg "tuple"=none)(X:œ "NoBook" CB N)(cF:Cn mg "MOST_FLAGS" (.int 8))(cS:Cn mg "FULL_STOP" (.int 46))(dC:Ç 1 "cut" ["text","mark"] (wq K)):Ì Ď 2 f fd ["part","numbers"] (V2 K CB):=by
 refine F.qk Nv Â;let(Z,pn,ms,part,rfl,hP,hl,Y,k1,k2):=h;let hu:A.units+3+1<cLine:=pP Ä hr.un;refine⟨_,aB (uO (i:=2) (own:=[("name",3)]) (te:=RD ϓ (rh (V1 K) Ãa)) Á Nv.nd Á Á Ô (eV (bx dC (ae Û (ae Æz ag)))) Ë
   (λ_ _ _ _ _=>dw 3 Nv.nd) Ö (λ_ _ _ _ _=>acB hu ã (xH Q2 Ô tT boot_tuple ĵ) ⟨rfl,rfl,rfl,rfl⟩))
  (aB (dj (PW.pt (pw_or (cI vQ ü (cf cF) (bV _)) (pw_or1 (cI IZ qW ç (by with_unfolding_all rfl))))) Ú dY)
  Çd),?_⟩
 refine⟨_,Á,Z,46,part,Á,hP,hl,λH1 p O j G nd aU fr=>⟨p,Á,⟨_,aa.of j.2.2⟩,λD hD=>gy (K:=K) (a:=p) (xs:=O.map V.ref) (ck H1 D λi v ns=>ns=[]/\∀x,(JM.aJ 46 part)[i]? =some x->v=oV (jQ ms x)) ĉ (λi H' _ f=>aa.of (f.same _ _ j.2.2)) Đ û⟩⟩
 .rw[bz] at hi;cases eq:O[i]? with
  |none=>symm
  |some q=>
   rw[eq] at hi;cases hi;let(x,hx,hq):=eG.get G eq;let eA:=(bH.mp eq).1;let gS:=Fh 46 part;let wM:=G.len;let I:=f.same _ _ (j.1 _ _ Y);apply(Á,eM ⟨_,Á,pn,Á,.inr ⟨_,.inl I⟩,_,Á,q,_,Á,.inl ⟨aa.of (f.same _ _ hq),λl U=>⟨_,jY.t (k:=keyOf x) ((aK U) _ _ I) (by rw[ao,VY]),?_⟩⟩⟩);rw[ajR];apply f.step hD Å (aK U) ⟨Á,λx' W=>?_⟩ aV.nil Ä;rw[hx] at W;cases W;cases jQ ms x <;> rfl
 .let(ys,s1,m,M,fl):=f.end;rw[az,G.len] at M;let ey:ys=(pF ms part).map oV:=by
   delta pF;rw[cV];apply u7 M λi y x h1 h2=>?_;let(ns,(_,e),_):=fl i y h1;symm
  subst ey;let S:=j.1.trans s1;let J:w6 ms part=if (pF ms part).length>8\/(pF ms part).contains none=true then none else some ((pF ms part).map λo=>o.getD 0):=rfl;generalize pF ms part=L at m J;refine⟨_,Á,D,_,Á,.inl (aa.of m),_,_,Á,Á,_,Á,ba Î Î⟩
  .let hc:L.length>8:=by
    grind
   apply lx (gM ((k2 ?_).go S));symm
  .let hc:¬L.length>8:=by
    grind
   apply(_,Á,D,_,Á,.inl (aa.of m),Á,ajV L,_,Á,?_);rw[ajW];refine ba Äd Äd
   .apply gM ((k2 ?_).go S);symm
   .apply(_,Á,k1 _ (by rw[J,ah (λz=>z.elim hc iV)]) H' D ⟨S,j.1.free hD,?_⟩);rw[m];congr 2;delta iv nv;rw[cV,cV];apply kY λo ho=>?_;cases o with
    |none=>symm
    |some n=>rfl
end
structure aO where
 a:Addr
 dx:Addr
 rw:Addr
 mn:Addr
 row:LN
 gH:LI
def Dc(e:aO):List (Str×V):=[("row",.ref e.rw),("meaning",.ref e.mn)]
def kC(CE:Addr)(e:aO):jt:=[(e.a,.ins CE e.dx (Dc e)),(e.rw,.lst Çs),(e.mn,.lst (iv e.gH))]
def aO.m(e:aO):LN×LI:=(e.row,e.gH)
def Dd(e:aO):(Dc e).lookup ("row":Str)=some (.ref e.rw):=gZ
def w8{CE:Addr}{H:Hp}{e:aO}(h:aV H Âf):H e.a=some (.ins CE e.dx (Dc e)):=h (e.a,_) (by simp[kC])
def De{CE:Addr}{H:Hp}{e:aO}(h:aV H Âf):H e.rw=some (.lst Çs):=h (e.rw,_) (by simp[kC])
def ajY{CE:Addr}{H:Hp}{e:aO}(m:H e.a=some (.ins CE e.dx (Dc e)))(h2:H e.rw=some (.lst Çs))(F:H e.mn=some (.lst (iv e.gH))):aV H Âf:=λz j=>by
 simp only[kC,a0,lO,lQ] at j;rcases j with rfl|rfl|rfl
 .exact m
 .exact h2
 .exact F
def ajZ{CE:Addr}{H:Hp}{e:aO}(m:H e.a=none)(h2:H e.rw=none)(F:H e.mn=none):jh H Âf:=λz j=>by
 simp only[kC,a0,lO,lQ] at j;rcases j with rfl|rfl|rfl
 .exact m
 .exact h2
 .exact F
def il(ms:aF)(line:LI):Option (LN×LI):=if line.contains 32=true then
  match w6 ms (line.take (line.idxOf 32)) with
  |none=>none
  |some row=>if m7 (line.drop (line.idxOf 32+1))=true then some (row,line.drop (line.idxOf 32+1)) else none
 else none
inductive Ny(K:FR)(CB CE:Addr)(vs:au)(H:Hp)(Q:VK)(E:XK):Prop
 |mk (ap pn:Addr) (ms:aF) (line:LI) (_:vs=[.ref ap,.ref pn]) (_:ä ap Æe) (_:line.length<=100000) (_:H pn=some (.dT (yy ms))) (_:(∀x,il ms line=some x->∀H' e,ai H H'->aO.m e=x->aV H' Âf->jh H Âf->Q (.ref e.a) H')) (_:(il ms line=none->No E CB H))
section
variable{P:Pg}{w:Wd}{K:FR}{mg:MG}{base:Heap}{CK CL CS N CV CP CB CE eZ:Addr}{C:Cs}
def V4:bO ["line","numbers","end"] ["line","numbers"] (aZ K8):=cu
def aj0{f:Addr}{fd:FD}(F:bu K "read_entry" "read_entry" K8 f fd)(X:œ "NoBook" CB N)(cB:Cn mg "BLANK" Åe)(dE:ă "Entry" CE ["row","meaning"])(dS:Ą Ď 2 "read_signs" ["part","numbers"] (V2 K CB)) (dM:Ą Ď 2 "read_meaning" ["part"] (VW K CB)):Ì Ď 3 f fd ["line","numbers"] (Ny K CB CE):=by
 let(fS,ya,GS,mS,kS,bS):=dS;let(fM,fdM,GM,mM,kM,bM):=dM;refine F.qk V4 Â;let(M,pn,ms,line,rfl,I,hl,Nw,k1,k2):=h;refine⟨_,aB (dj (cI abq (cf cB) Û (by with_unfolding_all rfl)) ŉ dY)
  (aB (cq 2 V4.nd (qe PySem.F.plainAttrs_list PySem.F.slot_list_index PySem.F.type_list_index Rf Û ž))
  (aD (a7 (qy dE hr (ae (mq GS hr rfl mS kS bS .nil rD (ae (xK xM Û xI (xJ ç)) Ř)) (ae (mq GM hr rfl mM kM bM .nil rD (ae (xK xM Û (xJ (eS qZ ç bp)) xI) ag)) ag)))))),?_⟩
 let m:il ms line=if line.contains 32=true then (match w6 ms (line.take (line.idxOf 32)) with
  |none=>none
  |some row=>if m7 (line.drop (line.idxOf 32+1))=true then some (row,line.drop (line.idxOf 32+1)) else none) else none:=rfl
 apply(_,Á,M,_,Á,.inl I,Á,B7 _,_,Á,?_);rw[Lo];refine ba Î Î
 .let hc:¬line.contains 32=true:=by simpa using hc
  exact gM (k2 É)
 .let hc:line.contains 32=true:=by simpa using hc
  rw[af hc] at m;let(j,zz,ej,hj,Lp,B8):=Tj hc;let uN:j<line.length:=by
   grind
  apply(_,Á,.inl ⟨Á,_,I⟩,M,_,_,j,zz,Á,Á,I,Á,B7 _,hj,Lp,B8,?_);let ej:line.idxOf 32=j:=by omega
  rw[ej] at m;apply(_,Á,_,Á,_,Á,M,_,Á,I,λG uW=>?_);rw[Uv _ (show j<=(iv line).length by grind),show(iv line).take j=iv (line.take j) by simp];let S:ai H (upd H G Ϝ):=aK uW;let V5:(upd H G Ϝ) G=some Ϝ:=ao;generalize upd H G Ϝ=H1 at S V5;apply(_,Á,G,pn,ms,line.take j,Á,aa.of V5,by grind,S _ _ Nw,λrow U J p W=>?_,λU=>?_)
  .rw[U] at m;dsimp only at m;let s2:=S.trans W.1;apply(_,Á,_,Á,_,_,Á,Á,_,Á,M,_,Á,s2.seq I,λz iV=>?_);rw[show((j:Int)+1)=((j+1:Nat):Int) from rfl,Cd _ (show j+1<=(iv line).length by grind),show(iv line).drop (j+1)=iv (line.drop (j+1)) by simp];let s3:ai J (upd J z (.lst (iv (line.drop (j+1))))):=aK iV;let O:(upd J z (.lst (iv (line.drop (j+1))))) z=some (.lst (iv (line.drop (j+1)))):=ao;generalize upd J z (.lst (iv (line.drop (j+1))))=H3 at s3 O;apply(z,line.drop (j+1),Á,aa.of O,by grind,λem H4 Y=>?_,λem=>?_)
   .rw[af em] at m;apply wD Á λx dx H5 hx iW aU e5 Z=>?_;let s6:=s2.trans (s3.trans Y);refine k1 _ m H5 ⟨x,dx,p,z,row,line.drop (j+1)⟩ (s6.trans Z) Á (ajY e5 (Z _ _ (Y _ _ (s3 _ _ W.2.2))) (Z _ _ (Y _ _ O))) (ajZ (s6.free hx) (S.free W.2.1) (s2.free iV))
   .rw[ah É] at m;exact(k2 m).go į
  .rw[U] at m;exact(k2 m).go S
end
def tY(r s:LN):Bool:=if ((r.length:Nat):Int)=((s.length:Nat):Int) then HT.lexLt (nv r) (nv s) else decide (((r.length:Nat):Int)<((s.length:Nat):Int))
def qL(rows:br):Bool:=(rows.zip (rows.drop 1)).all λp=>tY p.1 p.2
structure yz(CE:Addr)(H:Hp)(p:Addr)(es:List aO):Prop where
 a:H p=some (.lst (es.map λe=>V.ref e.a))
 l:∀e∈es,aV H Âf
 dg:es.length<=2048
def yz.same{CE:Addr}{H H':Hp}{p:Addr}{es:List aO}(h:yz CE H p es)(s:ai H H'):yz CE H' p es:=⟨s _ _ h.a,λe j=>(h.l e j).same s,h.dg⟩
inductive V6(CE:Addr)(vs:au)(H:Hp)(Q:VK)(E':XK):Prop
 |mk (p:Addr) (es:List aO) (_:vs=[.ref p]) (_:yz CE H p es) (_:∀H',ai H H'->Q (.bl (qL Ãm)) H')
def Df(row:LN)(rw p:Addr):jt:=[(p,.tup [.int ((row.length:Nat):Int),.ref rw])]
section
variable{P:Pg}{w:Wd}{K:FR}{mg:MG}{base:Heap}{CK CL CS N CV CP CB CE eZ:Addr}{C:Cs}
def Ao:bO ["entries","places","entry","before","place"] ["entries"] (aZ Lb):=cu
def aj1(F:bu K "are_in_order" "are_in_order" Lb f fd)(T:jN K CE ["row","meaning"])(tL:mg "len"=none)(tA:mg "all"=none)(tE:mg "enumerate"=none):Ì aE 1 f fd ["entries"] (V6 CE):=by
 refine F.ok Ao Â;let(p,es,rfl,G,k):=h;let hu:A.units+3+128<cLine:=by let:=hr.un;exact pP Ä this
 refine⟨_,aB (cq 1 Ao.nd (eE (own:=[("entry",2)]) (te:=xG (bq (rh (λxs H Q=>∃p ys,xs=[.ref p]/\(ä p ys\/bw K H p ys)/\Q (.int ((ys.length:Nat):Int)) H) (bq (fQ K ś "row") dQ)) (bq (fQ K ś "row") dQ))) Á Ao.nd Äu Ë
   (λ_ _ _ _ _=>dw 2 Ao.nd) Ö (λ_ _ _ _ _=>uH (ae (df gc Ô tL PySem.boot_len Š) Š))))
  (aD (a7 (df (vT rfl) Ô tA yR (ae (eE (own:=[("before",3),("place",4)]) (g:=g2 K 3 4) (te:=bX (SL K) (bX Ż ϓ ŗ) Ãy) rfl Ao.nd
   (lu Ô tE (ae (xK xM ã (xJ bp) xI) ag)) Ë
   (λ_ _ _ _ _=>iL 3 4 Ao.nd) Ö
   (λ_ _ _ _ _=>jF (aey hu) (cA cZ ã ø Ø) Ĵ (bV _))) ag)))),?_⟩
 let hf:=G.dg;refine⟨_,Á,p,Á,⟨_,aa.of G.a⟩,λD hD=>gy (K:=K) (a:=p) (xs:=es.map λe=>V.ref e.a) (ck H D λi y ns=>∃b:aO×Addr,es[i]? =some b.1/\y=.ref b.2/\ns=Df b.1.row b.1.rw b.2) ĉ (λi H' _ f=>aa.of (f.same _ _ G.a)) Đ û⟩
 .let(e,I,rfl):=iA hi;let eA:=(bH.mp I).1;let m:=(G.l e (bI I)).same f.same;apply(Á,eM ⟨_,Á,bc (w8 m) T.1 (T.2 _ Ä) (Dd e) ⟨e.rw,_,Á,.inl (aa.of (De m)),_,Á,bc (w8 m) T.1 (T.2 _ Ä) (Dd e) ⟨(by show 2<=sizeLine;decide),λt ht=>?_⟩⟩⟩);apply f.step hD Å (aK ht) ⟨(e,t),I,Á,Á⟩ ?_ ?_
  .intro z j;simp only[Df,nu] at j;subst j;rw[ao];simp
  .intro z j;simp only[Df,nu] at j;subst j;let(ys,_,hd,_):=f.end;grind
 .let(ys,Y,hd,m,fl):=f.end;let(bs,rfl,r1,l1):=wJ (v:=λb:aO×Addr=>V.ref b.2) (nd:=λb=>Df b.1.row b.1.rw b.2) (R:=λi b=>es[i]? =some b.1) fl;rw[az,az] at m;let Z:∀(i:Nat)(b:aO×Addr),bs[i]? =some b->H' b.2=some (.tup [.int ((b.1.row.length:Nat):Int),.ref b.1.rw])/\H' b.1.rw=some (.lst (iv (nv b.1.row))):=λi b hb=>⟨l1 b Èe (b.2,.tup [.int ((b.1.row.length:Nat):Int),.ref b.1.rw]) (by simp[Df]),Y _ _ (De (G.l b.1 (bI (r1 i b hb))))⟩;let ebs:bs.map Prod.fst=es:=by
   apply xt;grind
  apply(_,Á,_,Á,D,_,Á,aa.of hd,λc hc=>?_);let ex:oS (bs.map λb=>V.ref b.2) (some 1) none=(bs.drop 1).map λb=>V.ref b.2:=by
   by_cases j:1<=bs.length
   .rw[show(1:Int)=((1:Nat):Int) from rfl,Cd _ É,PZ]
   .let:bs=[]:=by
     symm
    rw[this];rfl
  rw[ex];let s2:=aK (o:=.lst ((bs.drop 1).map λb=>V.ref b.2)) hc;let J:(upd H' c (.lst ((bs.drop 1).map λb=>V.ref b.2))) c=some (.lst ((bs.drop 1).map λb=>V.ref b.2)):=ao;generalize upd H' c (.lst ((bs.drop 1).map λb=>V.ref b.2))=H2 at s2 J;apply(c,_,Á,aa.of J,λM cK=>lY (K:=K) (a:=c) (xs:=(bs.drop 1).map λb=>V.ref b.2) (ck H2 M λi y ns=>ns=[]/\∃a b,bs[i]? =some a/\bs[i+1]? =some b/\y=.bl (tY a.1.row b.1.row)) Ãx (λi H3 _ f=>aa.of (f.same _ _ J)) (λi y Tt H3 hi f hT=>?_) Æk)
  .let(b,hb,rfl):=iA hi;rw[YY] at hb;let hb:bs[i+1]? =some b:=by rw[<-hb];congr 1;omega
   let hib:=(bH.mp hb).1;obtain⟨a,W⟩:∃a,bs[i]? =some a:=⟨_,cY Å⟩;let s3:ai H3 (upd H3 Tt (.tup [.int (i:Nat),.ref b.2])):=aK hT;let S:=(s2.trans f.same).trans s3;let U:=Z i a W;let O:=Z _ b hb;refine ß;apply(_,Á,_,Á,D,_,(i:Int),.ref a.2,Á,Á,aa.of (S _ _ hd),fU É,_,Á,a.2,b.2,a.1.rw,b.1.rw,_,_,nv a.1.row,nv b.1.row,Á,Á,bw.of (S _ _ U.1),bw.of (S _ _ O.1),aa.of (S _ _ U.2),aa.of (S _ _ O.2),?_);exact f.step cK Å s3 ⟨Á,a,b,W,hb,Á⟩ aV.nil Ä
  .let(ys,s3,nX,FM,fl):=f.end;let j:((es.map aO.row).zip ((es.map aO.row).drop 1)).length=ys.length:=by
    symm
   let ey:ys=(((es.map aO.row).zip ((es.map aO.row).drop 1)).map λp=>tY p.1 p.2).map V.bl:=by
    rw[cV];apply u7 j.symm λi y x h1 h2=>?_;let(ns,(_,a,b,ea,eb,e),_):=fl i y h1;grind
   apply(M,_,Á,by rw[<-ey];exact aa.of nX,?_);let q:=k H3 (Y.trans į);rw[sr];exact q
end
def Ap(h:H y.a=some (.lst (y.ls.map λx=>V.ref x.a)))(h2:∀x∈y.ls,H x.a=some ϋ):aV H Æx:=λz j=>by
 rcases a0.mp j with rfl|j
 .exact h
 .let(x,m,j):=kZ.mp j;simp only[lsN,nu] at j;symm
def kG(ms:aF)(row:LN):Bool:=match oB ms [row] with
 |some (some _)=>true
 |_=>false
structure Gy(ms:aF)(rows:br):Prop where
 short:∀r∈rows,r.length<=8
 lt:∀r∈rows,∀s∈r,s<ms.length
 sg:∀r∈rows,∀s∈r,jP ms s=true
inductive V8(CK CE:Addr)(vs:au)(H:Hp)(Q:VK)(E':XK):Prop
 |mk (pk:Addr) (ks:List aA) (p:Addr) (es:List aO) (_:vs=[.ref pk,.ref p]) (_:ű ks) (_:wZ Í) (_:yz CE H p es) (_:Gy Í Ãm) (_:(∀e∈es,oB Í [e.row]≠none)) (_:∀H',ai H H'->Q (.bl ((es.map aO.row).all (kG Í))) H')
section
variable{P:Pg}{w:Wd}{K:FR}{mg:MG}{base:Heap}{CK CL CS N CV CP CB CE eZ:Addr}{C:Cs}
def NA:bO ["kinds","entries","entry"] ["kinds","entries"] (aZ Lc):=cu
def aj2(F:bu K "can_be_shown" "can_be_shown" Lc f fd)(T:jN K CE ["row","meaning"])(tA:mg "all"=none)(Y:Ç 4 "display_told" ["kinds","rows"] (Gq CK)):Ì aE 5 f fd ["kinds","entries"] (V8 CK CE):=by
 refine F.ok NA Â;let(pk,ks,p,es,rfl,hk,hm,I,M,hd,k):=h;refine⟨_,aD (a7 (df (vT Á) Ô tA yR (ae (eE (own:=[("entry",2)]) (te:=Qn (ie (Gq CK) [] E0 (bq ϔ (bq (zf (bq (fQ K ś "row") dQ)) dQ)))) Á NA.nd Æy Ë
   (λ_ _ _ _ _=>dw 2 NA.nd) Ö (λ_ _ _ _ _=>Qo (IA (bx Y (ae Û (ae (d9 Š) ag)))))) ag))),?_⟩
 let hf:=I.dg;refine⟨_,Á,p,Á,⟨_,aa.of I.a⟩,λD hD=>gy (K:=K) (a:=p) (xs:=es.map λe=>V.ref e.a) (ck H D λi y ns=>ns=[]/\∃e,es[i]? =some e/\y=.bl (kG Í e.row)) ĉ (λi H' _ f=>aa.of (f.same _ _ I.a)) Đ û⟩
 .let(e,G,rfl):=iA hi;let eA:=(bH.mp G).1;let U:=bI G;let j:=(I.l e U).same f.same;apply(Á,eM ⟨_,Á,_,Á,bc (w8 j) T.1 (T.2 _ Ä) (Dd e) ⟨(by show 1<=sizeLine;decide),λl W=>?_⟩⟩);let s1:ai H' (upd H' l (.lst [.ref e.rw])):=aK W;let O:(upd H' l (.lst [.ref e.rw])) l=some (.lst [.ref e.rw]):=ao;generalize upd H' l (.lst [.ref e.rw])=H1 at s1 O;cases ed:oB Í [e.row] with
  |none=>symm
  |some r=>
   let hrw:=M.short e.row (cb.mpr ⟨e,U,rfl⟩);apply(pk,ks,⟨l,[⟨e.rw,e.row⟩]⟩,r,Á,(hk.same f.same).same s1,hm,⟨Ap O Áy,Ä,Áy,Áy⟩,(by simp[cg.m];omega),ed,λhs J S z s2 ez lz fz=>?_,λJ S s2=>?_)
   .obtain rfl:x=_:=by simpa using hx
    exact s1 _ _ (De j)
   .grind
   .obtain rfl:x=_:=by simpa using hx
    intro s hs;let:=M.lt e.row (cb.mpr ⟨e,U,rfl⟩) s hs;symm
   .exact f.step hD Å Ác ⟨Á,e,G,by delta kG;rw[ed,J];rfl⟩ aV.nil Ä
   .exact f.step hD Å Ác ⟨Á,e,G,by delta kG;rw[ed,J];rfl⟩ aV.nil Ä
 .let(ys,s1,fW,j,fl):=f.end;rw[az] at j;let Z:ys=((es.map aO.row).map (kG Í)).map V.bl:=by
   rw[cV,cV];apply u7 j λi y x h1 h2=>?_;let(ns,(_,e,ee,rfl),_):=fl i y h1;symm
  apply(D,_,Á,by rw[<-Z];exact aa.of fW,?_);symm
end
def iI(ms:aF):c7->Option (List (LN×LI))
 |[]=>some []
 |l::r=>match il ms l,iI ms r with
  |some e,some es=>some (e::es)
  |_,_=>none
theorem aj3{ms:aF}{r:c7}:∀{l:LI},l∈r->il ms l=none->iI ms r=none:=by
 induction r with
 |nil=>intro l h;cases h
 |cons x r I=>
  intro l h e;delta iI;rcases a0.mp h with rfl|h
  .rw[e]
  .rw[I h e];cases il ms x <;> rfl
theorem aj4{ms:aF}{r:c7}:∀{es:List (LN×LI)},es.length=r.length->(∀(i:Nat)l e,r[i]? =some l->es[i]? =some e->il ms l=some e)->iI ms r=some es:=by
 induction r with
 |nil=>
  intro ms h _;cases ms with
  |nil=>rfl
  |cons _ _=>cases h
 |cons l r I=>
  intro es h k;cases es with
  |nil=>cases h
  |cons m es=>
   delta iI;rw[k 0 l m rfl rfl,I (es:=es) (À h) λi l m j h2=>k (i+1) l m j h2]
def Dg(ms:aF)(nm:LI):Option (List (LN×LI))->Option (LI×List (LN×LI))
 |some es=>if (qL (es.map (·.1))&&(es.map (·.1)).all (kG ms))=true then some (nm,es) else none
 |none=>none
def GC(name:LI)(ms:aF)(j m:Option LI)(r:c7):Option (LI×List (LN×LI)):=match j with
 |none=>none
 |some nm=>if m=some name then Dg ms nm (iI ms r) else none
def book1(name:LI)(ms:aF):Option c7->Option (LI×List (LN×LI))
 |some (l::f::r)=>if r.length<=2048 then GC name ms (fq (codes "book") l) (fq (codes "for") f) r else none
 |_=>none
def jA(name:LI)(ms:aF)(j:LI):Option (LI×List (LN×LI)):=book1 name ms (jL j)
theorem aj5(p:α->β->Prop)[∀x y,Decidable (p x y)](y:β)(f:α->Nat)(R:Nat->Prop)(l:List α):∀(acc:Option Nat),(∀x∈l,R (f x))->(∀m,acc=some m->R m)->∀m,l.foldl (λacc x=>if p x y then some (f x) else acc) acc=some m->R m:=by
 induction l with
 |nil=>exact @λacc _ h m e=>h m e
 |cons x l I=>
  intro acc F h m e;apply I _ (λz G=>F z (aP _ G)) (λM j=>?_) m e;dsimp only at j;split at j
  .cases j;exact F x Ä
  .exact h M j
def aj6{ms:aF}{name:LI}{n:Nat}(h:jQ ms name=some n):n<ms.length/\jP ms n=true:=by
 delta jQ at h;refine aj5 (λ(p:LI×Nat)(nm:LI)=>p.1=nm) name (λp=>p.2) (λn=>n<ms.length/\jP ms n=true) (tX ms ms.length) none Áy (λm e=>(by cases e)) n h;delta tX at hx;let(j,F,rfl):=cb.mp hx;let(z,h2):=kJ.mp F;exact(À z,h2)
def aj7{ms:aF}{part:LI}{row:LN}(h:w6 ms part=some row):row.length<=8/\∀s∈row,s<ms.length/\jP ms s=true:=by
 delta w6 at h;by_cases hc:(pF ms part).length>8\/(pF ms part).contains none=true
 .grind
 .rw[ah hc] at h;let h:=(aI h).symm;subst h;apply(?_,λs hs=>?_)
  .symm
  .let(o,j,rfl):=cb.mp hs;cases o with
   |none=>symm
   |some n=>
    delta pF at j;let(x,_,e):=cb.mp j;exact aj6 e
def NC(h:il ms line=some e):e.1.length<=8/\∀s∈e.1,s<ms.length/\jP ms s=true:=by
 delta il at h;split at h
 .split at h
  .symm
  .rename_i row j;split at h
   .let h:=(aI h).symm;subst h;exact aj7 j
   .symm
 .cases h
structure qM where
 a:Addr
 dx:Addr
 nm:Addr
 el:Addr
 name:LI
 es:List aO
def V9(b:qM):List (Str×V):=[("name",.ref b.nm),("entries",.ref b.el)]
def ND(b:qM):(V9 b).lookup ("entries":Str)=some (.ref b.el):=(fw Ê).trans gZ
structure w9(eZ CE:Addr)(H:Hp)(b:qM):Prop where
 a:H b.a=some (.ins eZ b.dx (V9 b))
 n:H b.nm=some (.lst (iv b.name))
 e:yz CE H b.el b.es
def w9.same{eZ CE:Addr}{H H':Hp}{b:qM}(h:w9 eZ CE H b)(s:ai H H'):w9 eZ CE H' b:=⟨s _ _ h.a,s _ _ h.n,h.e.same s⟩
def qM.m(b:qM):LI×List (LN×LI):=(b.name,b.es.map aO.m)
structure vk(CL CK:Addr)(H:Hp)(l:u4):Prop where
 lies:aV H Ãs
 dg:l.kinds.length<=66000
 look:∀k∈l.kinds,iX k.m.look
 ms:wZ Ñ
 sh:∀rows,(∀r∈rows,∀s∈r,jP Ñ s=true)->oB Ñ rows≠none
def vk.same(h:vk CL CK H l)(s:ai H H'):vk CL CK H' l:=⟨h.lies.same s,h.dg,h.look,h.ms,h.sh⟩
def vk.ks(h:vk CL CK H l):pd CK H l.kl l.kinds:=⟨aia h.lies,aib h.lies,by let:=h.dg;omega,h.look⟩
inductive Wa(K:FR)(CL CK CB CE eZ:Addr)(vs:au)(H:Hp)(Q:VK)(E:XK):Prop
 |mk (l:u4) (ap:Addr) (bG:LI) (_:vs=[.ref l.a,.ref ap]) (_:vk CL CK H l) (_:ä ap (iv bG)) (_:bG.length<=66000) (_:(∀x,jA l.name Ñ bG=some x->∀H' b,ai H H'->qM.m b=x->w9 eZ CE H' b->Gy Ñ Ý->Q Çn H')) (_:(jA l.name Ñ bG=none->No E CB H))
section
variable{P:Pg}{w:Wd}{K:FR}{mg:MG}{base:Heap}{CK CL CS N CV CP CB CE eZ:Addr}{C:Cs}
def Aq:bO ["locker","text","lines","name","numbers","entries","line"] ["locker","text"] (aZ K6):=cu
def aj8{f:Addr}{fd:FD}(F:bu K "read_book" "read_book" K6 f fd)(X:œ "NoBook" CB N)(TL:jN K CL ["name","kinds"])(tL:mg "len"=none)(cT:Cn mg "TITLE_LINES" (.int 2))(cM:Cn mg "MOST_ENTRIES" (.int 2048))(dW:Ç 2 "whole_lines" ["text"] (LY K)) (dN:Ç 4 "name_behind" ["title","line"] (LX K)) (dU:Ç 1 "numbers_of_signs" ["kinds"] (V0 CK)) (dE:Ą Ď 3 "read_entry" ["line","numbers"] (Ny K CB CE))(dO:Ç 1 "are_in_order_books" ["entries"] (V6 CE)) (dC:Ç 5 "can_be_shown" ["kinds","entries"] (V8 CK CE)) (dB:ă "Book" eZ ["name","entries"]):
  a9 P w K mg base Ď 6 f fd ["locker","text"] (Wa K CL CK CB CE eZ):=by
 let(fE,fdE,GE,mE,kE,bE):=dE;refine F.qk Aq Â;let(l,ap,I,rfl,hL,hP,hl,k1,k2):=h;let B9:dy 3 _:=hr.mono Ù;refine⟨_,aB (cq 2 Aq.nd (bx (hr:=hr) dW Ř))
  (aB (dj (PW.pt (pw_or Ær (pw_or1 (pY (aaN xF xF (cf cT) ü (eS qZ (cf cT) (cf cM))))))) Ú dY)
  (aB (cq 3 Aq.nd (bx (hr:=hr) dN (ae D7 (ae Àr ag))))
  (aB (dj (PW.pt (pw_or (nI (qX ø)) (pw_or1 (cI (Ji hr.units) (bx (hr:=hr) dN (ae D7 (ae Àr ag))) Ĉ (bV _))))) Ú dY)
  (aB (cq 4 Aq.nd (bx (hr:=hr) dU Äz))
  (aB (Sj (i:=5) (own:=[("line",6)]) (g:=p7 6) (tt:=Bw) (te:=ie (Ny K CB CE) [] E (bq (ay 6) (bq Ãy dQ))) rfl wb Aq.nd rfl rfl Ô (eV (xK xM ç (xJ (cf cT)) xI)) Ë
   (λ_ _ _ _ _=>dw 6 Aq.nd) Ö (λ_ _ _ _ _=>mq GE B9 rfl mE kE bE .nil rD (ae Ãu Ϩ)))
  (aB (dj (PW.pt (pw_or (pY (jD (bx (hr:=hr) dO Ũ))) (pw_or1 (pY (jD (bx (hr:=hr) dC (ae Ĉ Ũ)))))))
   (Ú) dY)
  (aD (a7 (qy dB hr (ae ø Ũ)))))))))),?_⟩
 apply(_,Á,ap,I,Á,hP,by omega,λH1 v s1 J=>?_);let Mn:∀L,jL I=some L->∀w∈L,w.length<=100000:=λL e=>by
  delta jL at e;split at e
  .let e:=aI e;subst e;apply λw hw=>?_;let:=x9 10 I w (A1 _ hw);omega
  .symm
 let el:jA l.name Ñ I=book1 l.name Ñ (jL I):=rfl;generalize jA l.name Ñ I=bk at el k1 k2;cases ew:jL I with
 |none=>
  rw[ew] at J el;let J:=J;subst J;exact(_,Á,_,Á,lx (gM ((k2 el).go s1)))
 |some L=>
  let mV:=Mn L ew;rw[ew] at J el;let(p,qs,rfl,qS,hp,qC,fr):=J;let wM:=qC.len;apply(_,Á,_,Á,nV ⟨_,Á,p,_,Á,.inl (aa.of hp),?_⟩);rw[az,wM];refine⟨_,_,Á,Á,_,Á,ba Ť Ť⟩
  case' refine_2=>
   let h1:¬(2:Int)<=((L.length:Nat):Int):=À h1
   apply(_,Á,lx (gM ((k2 (el.trans ?_)).go s1)))
   match L,h1 with
   |[],_=>rfl
   |[_],_=>rfl
   |a::b::c,h1=>exact absurd (by simp only[dc];omega) h1
  simp at h1;obtain⟨la,lb,r,rfl⟩:∃a b c,L=a::b::c:=by
   match L,h1 with
   |[],h1=>exact absurd h1 Ä
   |[_],h1=>exact absurd h1 Ä
   |a::b::c,_=>exact(a,b,c,Á)
  cases qC with
  | @cons q l0 qs0 r0 hq qC=>
  cases qC with
  | @cons q2 l2 qs r2 x4 vy=>
  let vy:eG H1 qs r:=vy;let wM:=vy.len;refine⟨_,_,Á,Á,_,_,Á,Á,_,Á,ba Ár Ár⟩
  .let h2:¬r.length<=2048:=by
    grind
   exact gM ((k2 (el.trans (ah h2))).go s1)
  let h2:r.length<=2048:=by
   grind
  let el:=el.trans (af h2);apply⟨_,Á,p,_,0,V.ref q,Á,Á,aa.of hp,fU (j:=0) Á,"book",q,la,Á,by decide,aa.of hq,mV la Ä,λH3 vn Z U=>?_⟩;let qz:=s1.trans Z;generalize fq (codes "book") la=nb at U el;cases nb with
  |none=>
   let U:=U;subst U;exact(_,Á,_,Á,lx (gM ((k2 el).go qz)))
  |some nm=>
  let(an,rfl,FO,ml):=U;apply⟨_,Á,_,Á,nV ⟨_,Á,p,_,1,V.ref q2,Á,Á,aa.of (Z _ _ hp),fU (j:=1) Á,"for",q2,lb,Á,by decide,aa.of (Z _ _ x4),mV lb Ä,λH4 vf s4 O=>?_⟩⟩;let oX:=qz.trans s4;let L4:=hL.same oX;apply(_,Á,bc (Cr L4.lies) TL.1 (TL.2 _ Ä) (agO l) ?_);let GG:H4 l.nm=some (.lst (iv l.name)):=L4.lies (l.nm,_) (by simp[tp]);generalize fq (codes "for") lb=nf at O el;obtain⟨d,fW,fh,nX⟩:∃d,Dp K H4 vf d/\SeqAt.shaped d=true/\PyData.eqv d (.list (l.name.map PyData.int))=decide (nf=some l.name):=by
   cases nf with
   |none=>
    let O:=O;subst O;exact(_,.aL,Á,Á)
   |some x=>
    let(c,rfl,_,hc):=O;apply(_,.lst (aa.of hc) (rF x),shaped_ints _,?_);show PyData.eqvAll _ _=_;rw[xX];simp
  apply(d,_,fW,.lst (aa.of GG) (rF _),fh,shaped_ints _,_,Á,?_);rw[nX];apply ba (λM=>?_) (λM=>?_)
  .simp at M;exact gM ((k2 (el.trans (ah M))).go oX)
  simp at M;let el:=el.trans (af M);apply(_,Á,bc (Cr L4.lies) TL.1 (TL.2 _ Ä) (FB l) ⟨l.kl,l.kinds,Á,L4.ks,λH5 pn Y=>?_⟩);let wI:=oX.trans Y.1;let Ii:=Y.1 _ _ (s4 _ _ (Z _ _ hp));apply(_,Á,_,Á,p,_,Á,aa.of Ii,λc hc=>?_);rw[show oS ((q::q2::qs).map V.ref) (some 2) none=qs.map V.ref from(Cd _ (i:=2) Ä).trans rfl];let s6:=aK (o:=.lst Än) hc;let jo:(upd H5 c Ē) c=some Ē:=ao;generalize upd H5 c Ē=H6 at s6 jo;let ye:=wI.trans s6;let aj9:=vy.same (((Z.trans s4).trans Y.1).trans s6);let aka:=s6 _ _ Y.2.2;refine⟨c,Á,⟨_,aa.of jo⟩,λD hD=>gy (K:=K) (a:=c) (xs:=qs.map V.ref) (ck H6 D λi y ns=>∃b:aO,(∀z,r[i]? =some z->il Ñ z=some b.m)/\y=.ref b.a/\ns=kC CE b) ĉ
     (λi H7 _ f=>aa.of (f.same _ _ jo)) (λi y H7 hi f=>?_) (λH7 f=>?_)⟩
  .rw[bz] at hi;cases eq:qs[i]? with
   |none=>symm
   |some qi=>
    rw[eq] at hi;let ey:=aI hi;subst ey;let eA:=(bH.mp eq).1;let(q',_,G,h'):=aj9.at (j:=i) Å;rw[bz,eq] at G;let G:=aI G;injection G with G;subst G;let rj:r[i]? =some (r.getD i []):=by
     symm
    let wN:=bI rj;apply(Á,eM ⟨_,Á,_,Á,qi,pn,l.kinds.map aA.m,r.getD i [],Á,aa.of (f.same _ _ h'),mV _ (aP _ (aP _ wN)),f.same _ _ aka,λm em H8 en S ek JA qf=>?_,λen=>?_⟩)
    .apply f.step hD Å S ⟨en,λz hl=>?_,Á,Á⟩ JA λx hx e=>f.has (by rw[<-e];exact qf x hx);symm
    .exact(k2 (by rw[el,aj3 wN en];rfl)).go (ye.trans f.same)
  .let(ys,s7,hd7,Wb,fl):=f.end;rw[az] at Wb;let(es,e1,r1,l1):=wJ (v:=λb:aO=>V.ref b.a) (nd:=kC CE) (R:=λi b=>∀z,r[i]? =some z->il Ñ z=some b.m) fl;subst e1;rw[az] at Wb;let Ag:∀(i:Nat)(b:aO),es[i]? =some b->∃z,il Ñ z=some b.m:=λi b hb=>by
    grind
   let ees:iI Ñ r=some (es.map aO.m):=aj4 É λi z m h1 h2=>by
    grind
   rw[ees] at el;let emr:(es.map aO.m).map (·.1)=es.map aO.row:=by
    rw[cV];rfl
   let el:bk=if (qL Ãm &&(es.map aO.row).all (kG Ñ))=true then some (nm,es.map aO.m) else none:=by
    rw[<-emr];exact el
   let zW:=ye.trans s7;let NF:yz CE H7 D es:=⟨hd7,l1,by omega⟩;let vm:Gy Ñ Ãm:=by
    apply(λrow Ar=>?_,λrow Ar s hs=>?_,λrow Ar s hs=>?_)
    all_goals
     let(b,hb,rfl):=cb.mp Ar;let(i,hi,e):=pQ hb;let(z,G):=Ag i b (by rw[<-e];exact cY hi);let:=NC G
    .symm
    .symm
    .symm
   apply(_,Á,D,es,Á,NF,λH8 S=>⟨_,Á,ba (λW=>?_) (λW=>?_)⟩)
   .simp at W;rw[W,lI,ah Ù] at el;exact gM ((k2 el).go (zW.trans S))
   simp at W;let Wc:=zW.trans S;let L8:=hL.same Wc;refine⟨_,Á,bc (Cr L8.lies) TL.1 (TL.2 _ Ä) (FB l) ⟨_,Á,l.kl,l.kinds,D,es,Á,L8.ks,L8.ms,NF.same S,vm,λe he=>L8.sh [e.row] (λr hr s hs=>by
     obtain rfl:r=e.row:=À hr
     exact vm.sg _ (cb.mpr ⟨e,he,Á⟩) s hs),λH9 s9=>⟨_,rfl,ba ě ě⟩⟩⟩
   .let hd:(es.map aO.row).all (kG Ñ)=false:=by simpa using hd
    rw[hd,yQ,ah Ù] at el;exact gM ((k2 el).go (Wc.trans s9))
   let hd:(es.map aO.row).all (kG Ñ)=true:=À hd
   rw[W,hd,PR,af rfl] at el;let NG:=S.trans s9;exact(_,Á,_,Á,wD Á λx dx Ha hx iW aU ea sa=>(k1 _ el Ha ⟨x,dx,an,D,nm,es⟩ ((zW.trans NG).trans sa) Á ⟨ea,sa _ _ (NG _ _ (s7 _ _ (s6 _ _ (Y.1 _ _ (s4 _ _ ml))))),NF.same (NG.trans sa)⟩ vm))
end
def m9(rows:br)(i:Nat):Nat:=(rows.getD i []).length
def As(rows:br)(a b:Bool)(n:Nat)(i:Nat):Bool:=decide (m9 rows i=n)||((a||b)&&decide (n<m9 rows i))
def qN(rows:br)(g:iO):LN:=(List.range rows.length).filter (As rows g.above g.below g.flags.length)
inductive NH(C:Cs)(eZ CE:Addr)(vs:au)(H:Hp)(Q:VK)(E':XK):Prop
 |mk (b:qM) (g:cw) (_:vs=[.ref b.a,.ref g.a]) (_:w9 eZ CE H b) (_:Lies H Æv) (_:∀H' p,Ϧ (.lst (iv (nv (qN Ý g.m))))->Q ĥ H')
abbrev We(K:FR):au->Hp->VK->Prop:=λxs H Q=>∃p ys,xs=[.ref p]/\(ä p ys\/bw K H p ys)/\Q (.int ((ys.length:Nat):Int)) H
section
variable{P:Pg}{w:Wd}{K:FR}{mg:MG}{base:Heap}{CK CL CS N CV CP CB CE eZ:Addr}{C:Cs}
def yA:bO ["book","glimpse","seen","may_be_longer","lengths","entry","number","length"] ["book","glimpse"] (aZ Le):=cu
def ake(F:bu K "entries_in_doubt" "entries_in_doubt" Le f fd)(z:mJ K C)(O:jN K eZ ["name","entries"])(TE:jN K CE ["row","meaning"])(tL:mg "len"=none)(tE:mg "enumerate"=none):Ì aE 1 f fd ["book","glimpse"] (NH C eZ CE):=by
 refine F.ok yA Â;let(b,g,rfl,G,I,k):=h;refine⟨_,aB (cq 2 yA.nd Œ)
  (aB (cq 3 yA.nd (Qp ŀ (sI ŀ)))
  (aB (uO (i:=4) (own:=[("entry",5)]) (te:=rh (We K) (bq (fQ K (ay 5) "row") dQ)) rfl yA.nd rfl rfl Ô (eV Ĉ) Ë
   (λ_ _ _ _ _=>dw 5 yA.nd) Ö (λ_ _ _ _ _=>df gc Ô tL PySem.boot_len (ae (bg Äo rfl) ag)))
  (aD (a7 (eE (own:=[("number",6),("length",7)]) (g:=g2 K 6 7) (tt:=IB (nM (bX oQ Èu ś)) (Ea (tB ŗ) (nM (bX (gu λi j=>.bl (decide (i>j))) Èu ś)))) (te:=ay 6) rfl yA.nd
   (lu Ô tE Ϩ) Ë
   (λ_ _ _ _ _=>iL 6 7 yA.nd)
   (λ_ _ _ _ _=>qg (PW.pt (pw_or (cI ir Åv ç (bV _)) (pw_or1 (PW.pt (pw_and (jD ø) (pw_and1 (cI vQ Åv ç (bV _))))))))) (λ_ _ _ _ _=>pv 6)))))),?_⟩
 let hf:=G.e.dg;apply(_,Á,bc I.ga z.cG z.wx (wu g) ⟨g.l,_,Á,.inl (aa.of I.fl),?_⟩);dsimp only;rw[az];apply Sx g.above g.below (λK q=>⟨_,Á,bc I.ga z.cG z.Tr (Tp g) q⟩) (λ_ K q=>⟨_,Á,bc I.ga z.cG z.Ts (Tq g) q⟩) ?_;apply(_,Á,bc G.a O.1 (O.2 _ Ä) (ND b) ⟨b.el,Á,⟨_,aa.of G.e.a⟩,λD hD=>gy (K:=K) (a:=b.el) (xs:=b.es.map λe=>V.ref e.a) (fX H D λi=>((m9 Ý i:Nat):Int)) Âg (λi H' _ f=>aa.of (f.1 _ _ G.e.a)) Đ (λH1 f=>?_)⟩)
 .let(e,Y,rfl):=iA hi;let U:=(bH.mp Y).1;let Z:=(G.e.l e (bI Y)).same f.1;apply(Á,eM ⟨_,Á,bc (w8 Z) TE.1 (TE.2 _ Ä) (Dd e) ⟨e.rw,_,Á,.inl (aa.of (De Z)),?_⟩⟩);apply fX.step hD Å f Ĳ ?_;delta m9;symm
 .let hd:=f.2;rw[az] at hd;let s1:=f.1;refine⟨_,Á,D,_,Á,aa.of hd,λM J=>lY (K:=K) (a:=D) (xs:=iv ((List.range b.es.length).map λi=>((m9 Ý i:Nat):Int))) (l6 H1 M (As Ý g.above g.below g.flags.length)) (l6.zero J) (λi H' _ f=>aa.of (f.1 _ _ hd)) Áq Æk⟩
  .let U:=(bH.mp hi).1;rw[d7,az,ib] at U;let ev:v=.int ((m9 Ý i:Nat):Int):=by
    symm
   subst ev;let S:ai H' (ϥ (.tup [.int (i:Nat),.int ((m9 Ý i:Nat):Int)])):=aK hT;refine ï;generalize upd H' Tt (.tup [.int (i:Nat),.int ((m9 Ý i:Nat):Int)])=H4 at S;refine or_val (decide (m9 Ý i=g.flags.length)) ((g.above||g.below)&&decide (g.flags.length<m9 Ý i)) (λK q=>⟨_,Á,_,Á,Á,_,Á,by rw[mj];exact q⟩)
    (λ_ K q=>and_val (g.above||g.below) (decide (g.flags.length<m9 Ý i)) (λK q=>⟨_,rfl,_,rfl,q⟩) (λ_ K q=>⟨_,rfl,_,rfl,_,_,rfl,rfl,_,rfl,?_⟩) q) (ba Î Î)
   .symm
   .exact(_,Á,f.yes J Å S hc)
   .exact f.no S hc
  .let W:=f.2;rw[d7,az,ib] at W;apply k H3 M ⟨s1.trans f.1,s1.free J,?_⟩;rw[W];delta qN cw.m;simp
end
def hJ(l:LN):Nat:=l.foldl (λa b=>a*b) 1
inductive Wf(vs:au)(H:Hp)(Q:VK)(E':XK):Prop
 |mk (p:Addr) (l:LN) (_:vs=[.ref p]) (_:H p=some (.lst Èa)) (_:(∀n∈l,n<=100000)) (_:Q (.int ((hJ l:Nat):Int)) H)
def t7(s:Nat):LN:=if s=2 then [0,1] else [s]
inductive Wg(C:Cs)(vs:au)(H:Hp)(Q:VK)(E':XK):Prop
 |mk (p:eT) (_:vs=[.ref p.a]) (_:Lies H Ál) (_:∀H' q,o4 H H' q (.lst (iv (nv Çx)))->Q Çm H')
section
variable{P:Pg}{w:Wd}{K:FR}{mg:MG}{base:Heap}{CK CL CS N CV CP CB CE eZ:Addr}{C:Cs}
def GH:bO ["numbers","whole","number"] ["numbers"] (aZ Lf):=cu
def akf(F:bu K "product" "product" Lf f fd):Ì aE 1 f fd ["numbers"] Wf:=by
 refine F.ok GH Â;let(p,l,rfl,j,G,k):=h;refine⟨_,aB (cq 1 GH.nd bp)
  (aB (ϐ Äu (dw 2 GH.nd) (aD (cq 1 GH.nd (eS aaJ ã ç))))
  Çe),?_⟩
 apply(_,Á,p,Á,⟨_,aa.of j⟩,vO (K:=K) (a:=p) (xs:=iv (nv l)) (λi σ H'=>∃v,σ=[some ĥ,some (.int ((hJ (l.take i):Nat):Int)),v]/\H'=H) ⟨none,Á,Á⟩ (λi σ H' _ ⟨_,_,e⟩=>by rw[e];exact aa.of j) ?_ ?_)
 .rintro i x σ H' hi ⟨v,rfl,rfl⟩;let(z,m,rfl):=mX hi;let I:=G z (bI m);apply(_,Á,_,Á,_,_,Á,Á,.inr ⟨by omega,by omega⟩,some (.int ((z:Nat):Int)),?_,Á);rw[take_snoc m];delta hJ;simp
 .rintro σ H' ⟨v,rfl,rfl⟩;refine Ģ;symm
def akg:bO ["plate"] ["plate"] (aZ Lh):=cu
def akh(F:bu K "sides_of" "sides_of" Lh f fd)(T:mJ K C)(z:Cn mg "FRONT" Ō)(cB:Cn mg "BEHIND" Ţ)(G:Cn mg "UNKNOWN_SIDE" (.int 2)):Ì aE 1 f fd ["plate"] (Wg C):=by
 refine F.ok akg Â;let(p,rfl,m,k):=h;apply(_,aD (a7 (sJ (cI ir Ŗ (cf G) (bV _)) (d9 (ae (cf z) ž)) (d9 (ae Ŗ ag)))),?_);refine⟨_,Á,bc m.pl T.cP T.Lv (To p) Ķ⟩;rw[show V.int 2=V.int ((2:Nat):Int) from rfl,mj];let k:=k;delta t7 at k;refine ba Î Î
 .rw[af É] at k;exact(by show 2<=sizeLine;decide,λq j=>k _ q ⟨aK j,j,ao⟩)
 .rw[ah É] at k;exact(_,Á,bc m.pl T.cP T.Lv (To p) ⟨by show 1<=sizeLine;decide,λq j=>k _ q ⟨aK j,j,ao⟩⟩)
end
def pG(rows:br)(c:LN):br:=rows.flatMap λrow=>c.map λn=>row++[n]
def lG(cs:br):br:=cs.foldl pG [[]]
def vo(cs:br):br:=if cs.contains []=true then [] else lG cs
theorem aki(l:LN)(a:Nat):l.foldl (λa b=>a*b) a=a*hJ l:=by
 induction l generalizing a with
 |nil=>simp[hJ]
 |cons x l I=>
  delta hJ;grind
def NI(a b:LN):hJ (a++b)=hJ a*hJ b:=by
 rw[<-aki];delta hJ;simp
theorem akj(h:∀n∈l,1<=n):1<=hJ l:=by
 induction l with
 |nil=>exact bU _
 |cons x l I=>
  let j:=h x Ä;let h2:=I λn m=>h n (aP _ m);show 1<=hJ ([x]++l);rw[NI];let e:hJ [x]=x:=Nat.one_mul x;rw[e];exact Nat.mul_pos j h2
theorem NJ(rows:br)(c:LN):(pG rows c).length=rows.length*c.length:=by
 delta pG;induction rows with
 |nil=>simp
 |cons r rows I=>rw[DU,lJ,I,az,dc,Nat.succ_mul,Nat.add_comm]
def GI(cs:br)(c:LN):lG (cs++[c])=pG (lG cs) c:=by
 delta lG;simp
def Wh(cs:br):(lG cs).length=hJ (cs.map List.length):=by
 refine snoc_ind (P:=λcs=>(lG cs).length=hJ (cs.map List.length)) Á Áz cs;rw[GI,NJ,ih,bZ,NI];congr 1;exact(Nat.one_mul _).symm
def akk(h:∀n∈l,1<=n)(i:Nat):hJ (l.take i)<=hJ l:=by
 let j:1<=hJ (l.drop i):=akj λn m=>h n (Y2 m);let h2:hJ l=hJ (l.take i)*hJ (l.drop i):=by rw[<-NI,HW]
 rw[h2];exact Nat.le_mul_of_pos_right _ j
theorem akl{H:Hp}{ls:List c6}:(∀x∈ls,H x.a=some ϋ)->eG H (ls.map c6.a) (ls.map λx=>nv x.ns):=by
 induction ls with
 |nil=>exact @λ_=>.nil
 |cons x ls I=>
  intro h;exact .cons (h x Ä) (I λz j=>h z (aP _ j))
def NK(cs:br):∀row∈lG cs,row.length=cs.length:=by
 apply snoc_ind (P:=λcs=>∀row∈lG cs,row.length=cs.length) (λrow h=>?_) (λl x I row h=>?_) cs
 .let:row=[]:=by simpa [lG] using h
  rw[this];rfl
 .rw[GI] at h;delta pG at h;let(r,hr,h):=kZ.mp h;let(n,_,rfl):=cb.mp h;rw[lJ,I r hr,lJ];rfl
inductive Wi(vs:au)(H:Hp)(Q:VK)(E':XK):Prop
 |mk (y:cg) (_:vs=[.ref y.a]) (_:aV H Æx) (_:y.ls.length<=100) (_:(∀x∈y.ls,x.ns.length<=100000)) (_:(y.m.contains []=false->hJ Ŷ<=1024)) (_:∀H' z,ai H H'->cg.m z=vo y.m->aV H' (eX z)->jh H (eX z)->Q Åb H')
section
variable{P:Pg}{w:Wd}{K:FR}{mg:MG}{base:Heap}{CK CL CS N CV CP CB CE eZ:Addr}{C:Cs}
def xb:bO ["choices","rows","choice","longer","row","number"] ["choices"] (aZ Lg):=cu
inductive RwI(y:cg)(H:Hp)(i:Nat)(σ:L2.St)(H':Hp):Prop
 |mk (z:cg) (v2 v3 v4:Option V) (_:σ=[some Às,some Åb,v2,v3,v4,none]) (_:ai H H') (_:aV H' (eX z)) (_:jh H (eX z)) (_:z.m=lG ŵ)
inductive RwJ(y z:cg)(c:c6)(g:Addr)(H3 H:Hp)(j:Nat)(σ:L2.St)(H':Hp):Prop
 |mk (v4:Option V) (ls:List c6) (_:σ=[some Às,some Åb,some (.ref c.a),some (.ref g),v4,none]) (_:ai H3 H') (_:aV H' (eX ⟨g,ls⟩)) (_:(∀x∈ls,x.a≠g)) (_:(∀x∈ls,jh H (lsN x))) (_:ls.map c6.ns=pG (z.m.take j) c.ns)
def ako{f:Addr}{fd:FD}(F:bu K "all_rows" "all_rows" Lg f fd):Ì aE 1 f fd ["choices"] Wi:=by
 refine F.ok xb Â;let(y,rfl,hy,VM,sP,gY,k):=h;let hu:A.units+3+128<cLine:=by let:=hr.un;exact pP Ä this
 refine⟨_,aB (dj (cI (JI hu) Ī Û (by with_unfolding_all rfl)) (aD (a7 Ī)) dY)
  (aB (cq 1 xb.nd (d9 Äy))
  (aB (ϐ Äu (dw 2 xb.nd) (aB (cq 3 xb.nd Ī)
   (aB (ϐ Æy (dw 4 xb.nd) (aD (pZ (ċ ø (ae
    (eE (own:=[("number",5)]) (te:=bX Q7 Ãy (zf Ès)) rfl xb.nd (eV ç) Ë
     (λ_ _ _ _ _=>dw 5 xb.nd) Ö (λ_ _ _ _ _=>eS Q8 Ĵ (d9 Ũ))) ag)))))
   (aD (cq 1 xb.nd ø)))))
  Çe)),?_⟩
 let qI:=jO hy;apply(dv _,λl uV=>?_);let S:ai H (ϟ â):=aK uV;let jq:(ϟ â) l=some â:=ao;generalize upd H l â=H1 at S jq;let akp:=akl λx hx=>S _ _ (mY hy hx);let akq:H1 y.a=some (.lst ((y.ls.map c6.a).map V.ref)):=by
  rw[cV];exact S _ _ qI
 apply(_,Á,y.a,_,_,.list [],Á,aa.of akq,VX akp,.lst (aa.of jq) .nil,λd hd=>?_,Á,_,Á,?_)
 .let(x,_,rfl):=cb.mp hd;exact shaped_ints x
 rw[any_empty];let lp:(y.ls.map λx=>nv x.ns).contains []=y.m.contains []:=by
  rw[pO,DW,DW];delta cg.m;simp
 rw[lp];refine ba Î Î
 .apply(dv _,λp hp=>?_);apply k _ ⟨p,[]⟩ (S.trans (aK hp)) ?_ (Ap ao Ä) (Cw (S.free hp) Ä);delta vo;rw[af hc];rfl
 let hc:y.m.contains []=false:=À hc
 let akr:=gY hc;let aks:∀n∈y.m.map List.length,1<=n:=λn hn=>by
  grind
 let F4:∀i,(lG ŵ).length<=1024:=λi=>by
  rw[Wh,List.map_take];exact ia (akk aks i) akr
 let ek:vo y.m=lG y.m:=by delta vo;rw[ah (by assumption)]
 rw[ek] at k;apply(dv _,λe he=>⟨by show 1<=sizeLine;decide,λr tW=>?_⟩);let hre:r≠e:=λz=>by rw[z,ao] at tW;cases tW
 let s2:ai H1 (upd (upd H1 e â) r (.lst [.ref e])):=(aK he).trans (aK tW);let Wj:aV (upd (upd H1 e â) r (.lst [.ref e])) (eX ⟨r,[⟨e,[]⟩]⟩):=Ap ao λx hx=>by
  obtain rfl:x=_:=À hx
  rw[aq hre.symm,ao];rfl
 generalize upd (upd H1 e â) r (.lst [.ref e])=H2 at s2 Wj;let fg:=S.trans s2;refine⟨_,Á,y.a,Á,⟨_,aa.of (fg _ _ qI)⟩,vO (K:=K) (a:=y.a) (xs:=y.ls.map λx=>V.ref x.a) (RwI y H)
  ⟨⟨r,[⟨e,[]⟩]⟩,none,none,none,rfl,fg,Wj,Cw (S.free ((aK he).free tW)) Áy,rfl⟩ (λi σ H' _ h=>(by let(_,_,_,_,_,G):=h;exact aa.of (G _ _ qI))) ?_ ?_⟩
 .obtain rfl:x=_:=by simpa using hx
  exact λw Z=>(by simp only[lsN,nu] at Z;subst Z;exact S.free he)
 .rintro i x σ J hi ⟨z,v2,v3,v4,rfl,G,O,Dh,U⟩;let(c,js,rfl):=iA hi;let zt:=bI js;let Ft:=G _ _ (mY hy zt);let gS:=sP c zt;let rZ:y.m[i]? =some c.ns:=by delta cg.m;rw[bz,js];rfl
  let Wk:lG (y.m.take (i+1))=pG z.m c.ns:=by rw[take_snoc rZ,GI,U]
  let rk:=F4 (i+1);rw[Wk] at rk;apply(dv _,λg NL=>?_);let s4:ai J (upd J g â):=aK NL;let hgg:(upd J g â) g=some â:=ao;refine⟨_,Á,z.a,Á,⟨_,aa.of (s4 _ _ (jO O))⟩,vO (K:=K) (a:=z.a) (xs:=z.ls.map λx=>V.ref x.a) (RwJ y z c g J H)
   ⟨v4,[],rfl,s4,Ap hgg Ä,by simp,by simp,by rw[Y7];rfl⟩ (λj σ H' _ h=>(by let(_,_,_,I):=h;exact aa.of (I _ _ (jO O)))) ?_ ?_⟩
  .rintro j x σ H4 hj ⟨v4,ls,rfl,I,W,zO,Wl,Y⟩;let(r,Wm,rfl):=iA hj;let wN:=bI Wm;let arM:r.ns.length<=1000:=by
    let M:r.ns∈z.m:=by delta cg.m;exact cb.mpr ⟨r,wN,Á⟩
    rw[U] at M;let h2:=NK _ _ M;grind
   let F7:=I _ _ (mY O wN);let Wn:=I _ _ Ft;let Wo:=jO W;apply(_,Á,.inl ⟨Á,_,aa.of Wo⟩,_,Á,c.a,Á,⟨_,aa.of Wn⟩,λD hD=>gy (K:=K) (a:=c.a) (xs:=iv (nv c.ns)) (jx H4 D λi=>r.ns++[c.ns.getD i 0]) ĉ (λi H' _ f=>aa.of (f.same _ _ Wn)) (λn v H' hi f=>?_) (λH5 f=>?_))
   .let(m,hm,rfl):=mX hi;let tP:=(bH.mp hm).1;apply(Á,eM ⟨_,Á,_,Á,(by show 1<=sizeLine;decide),λq hq=>⟨r.a,q,_,_,Á,Á,(aK hq) _ _ (f.same _ _ F7),ao,?_,λq2 x4=>?_⟩⟩)
    .rw[d7,jw];exact pN (gi (by grind))
    .apply jx.step hD Å f ((aK hq).trans (aK x4)) ((aK hq).free x4) ?_;rw[ao,getD_at hm];simp
   .let(d,hda,s6,Wp,l7,J2):=jx.end hD f;rw[d7,jw] at Wp;let hg5:=s6 _ _ Wo;let tQ:∀x∈d.ls,x.a≠g:=λx hx z=>by
     let M:=J2 (x.a,_) (by delta eX;exact aP _ (kZ.mpr ⟨x,hx,by simp[lsN];rfl⟩));symm
    let akx:d.m=c.ns.map λn=>r.ns++[n]:=by
     rw[Wp];exact wU (l:=c.ns) (g:=λn=>r.ns++[n]) (d:=0)
    let et:pG (z.m.take (j+1)) c.ns=ls.map c6.ns++d.m:=by
     let e1:z.m[j]? =some r.ns:=by delta cg.m;rw[bz,Wm];rfl
     rw[take_snoc e1,Y,akx];delta pG;simp
    apply(g,D,_,_,Á,Á,hg5,(by rw[<-hda];exact jO l7),?_,_,ls++d.ls,Á,fe (I.trans s6) NL,Ap ?_ ?_,?_,?_,?_)
    .let M:=cJ List.length et;rw[lJ,az,iH] at M;let h2:(pG (z.m.take (j+1)) c.ns).length<=1024:=by
      rw[NJ];rw[NJ] at rk;apply ia (Nat.mul_le_mul_right _ ?_) rk;grind
     rw[az,az];exact pN (gi (by grind))
    .rw[ao,bZ]
    .intro x hx;rcases gQ.mp hx with hx|hx
     .rw[aq (zO x hx)];exact s6 _ _ (mY W hx)
     .rw[aq (tQ x hx)];exact mY l7 hx
    .grind
    .intro x hx;rcases gQ.mp hx with hx|hx
     .symm
     .exact λw Z=>(G.trans I).free (J2 w (by delta eX;exact aP _ (kZ.mpr ⟨x,hx,Z⟩)))
    .rw[bZ,et];rfl
  .rintro σ H4 ⟨v4,ls,rfl,I,W,zO,Wl,Y⟩;apply(_,Á,⟨g,ls⟩,_,_,_,Á,G.trans I,W,Cw (G.free NL) Wl,?_);rw[az,<-iH,lN] at Y;rw[Wk];exact Y
 .rintro σ J ⟨z,v2,v3,v4,rfl,G,O,Dh,U⟩;rw[az,<-iH,lN] at U;exact(_,Á,k J z G U O Dh)
end
theorem aky(sames:LN)(l:cj):∀(st:ik)(x:LN×ik),oA sames st l=some x->x.1.length=l.length:=by
 induction l with
 |nil=>
  intro st x h;delta oA at h;rw[<-aI h];rfl
 |cons p r I=>
  intro st x h;delta oA at h;split at h
  .cases h
  .split at h
   .cases h
   .rename_i y e;rw[<-aI h];show y.1.length+1=r.length+1;rw[I _ _ e]
theorem Wq(sames:LN)(l:List cj):∀(st:ik)(x:br×ik),m4 sames st l=some x->x.1.map List.length=l.map List.length:=by
 induction l with
 |nil=>
  intro st x h;delta m4 at h;rw[<-aI h];rfl
 |cons p r I=>
  intro st x h;delta m4 at h;split at h
  .cases h
  .rename_i z j;split at h
   .cases h
   .rename_i y e;rw[<-aI h,aX,aX,I _ _ e,aky sames p _ _ j]
def Wr{ms:aF}{rows hs:br}(h:oB ms rows=some (some hs)):hs.map List.length=rows.map List.length:=by
 delta oB at h;split at h
 .symm
 .split at h
  .symm
  .cases e:m4 Ĩ Æq Ãw with
   |none=>symm
   |some x=>
    rw[e] at h;let h:=aI (aI h);rw[<-h,Wq _ _ _ _ e];delta m5 fZ;rw[cV];apply xt;intro i;rw[bz,bz,Zc,bz];cases er:rows[i]? with
    |none=>symm
    |some r=>
     rw[Ie.mpr (show rows[i]? =some (r,r).1/\rows[i]? =some (r,r).2 from⟨er,er⟩)];delta qH;simp
def akz(cs:br):∀nums∈lG cs,∀(i n:Nat)(c:LN),nums[i]? =some n->cs[i]? =some c->n∈c:=by
 apply snoc_ind (P:=λcs=>∀nums∈lG cs,∀(i n:Nat)(c:LN),nums[i]? =some n->cs[i]? =some c->n∈c) (λnums h i n c j h2=>?_) (λl x I nums h i n c j h2=>?_) cs
 .simp at h2
 .rw[GI] at h;delta pG at h;let(r,hr,h):=kZ.mp h;let(m,G,rfl):=cb.mp h;let F:=NK l r hr;by_cases hi:i<l.length
  .rw[HL Å] at j;rw[HL hi] at h2;exact I r hr i n c j h2
  .rw[Pw Å] at j;rw[Pw Å] at h2;let z:i-l.length=0:=by
    let:=(bH.mp h2).1;simpa using this
   rw[F,z] at j;rw[z] at h2;cases j;cases h2;exact G
def akA{hs rows:br}(e:hs.map List.length=rows.map List.length){i:Nat}{h r:LN}(j:hs[i]? =some h)(h2:rows[i]? =some r):h.length=r.length:=by
 let:=cJ (λl=>l[i]?) e;simp only[bz,j,h2] at this;simpa using this
def r6{α:Type}(H1:Hp)(D:Addr)(l:List α)(q:α->Bool)(g:α->V)(i:Nat)(H:Hp):Prop:=ai H1 H/\H D=some (.lst (((l.take i).filter q).map g))
def r6.zero{α:Type}{H1:Hp}{D:Addr}{l:List α}{q:α->Bool}{g:α->V}(j:H1 D=none):r6 H1 D l q g 0 Č:=⟨aK j,ao⟩
def r6.yes{α:Type}{H1 H j:Hp}{D:Addr}{l:List α}{q:α->Bool}{g:α->V}{i:Nat}{x:α}{v:V}(m:H1 D=none)(hi:i<1000000)(f:r6 H1 D l q g i H)(s:ai H j)(F:l[i]? =some x)(h:q x=true)(z:v=g x):jX D (r6 H1 D l q g (i+1)) v j:=by
 subst z;apply(_,s _ _ f.2,?_,fe (f.1.trans s) m,?_)
 .rw[az];let:=HY q (l.take i);rw[nr] at this;exact gi Å
 .rw[ao,FL F,af h,bZ];rfl
def r6.no(f:r6 H1 D l q g i H)(s:ai H H4)(j:l[i]? =some x)(h:¬q x=true):r6 H1 D l q g (i+1) H4:=by
 apply(f.1.trans s,?_);rw[FL j,ah h,jV];exact s _ _ f.2
theorem akB{α β:Type}{q:α->Option β}{l:List α}{i:Nat}{x:α}(h:l[i]? =some x):(l.take (i+1)).filterMap q=(l.take i).filterMap q++(match q x with|some y=>[y]|none=>[]):=by
 rw[take_snoc h,Y8];congr 1;cases e:q x with
 |none=>simp[e]
 |some y=>simp[e]
structure pH where
 a:Addr
 dx:Addr
 nums:c6
 hs:cg
 sd:c6
def GQ(r:pH):List (Str×V):=[("entries",.ref r.nums.a),("hoists",.ref r.hs.a),("sides",.ref r.sd.a)]
def Au(CR:Addr)(r:pH):jt:=(r.a,.ins CR r.dx (GQ r))::(lsN r.nums++(eX r.hs++lsN r.sd))
def Ws{CR:Addr}{r:pH}{p:Addr×HO->Prop}(m:p (r.a,.ins CR r.dx (GQ r)))(h2:∀x∈lsN r.nums,p x)(z:∀x∈eX r.hs,p x)(F:∀x∈lsN r.sd,p x):∀x∈Au CR r,p x:=λx j=>by
 rcases a0.mp j with rfl|j
 .exact m
 .grind
def pH.m(r:pH):LN×br×LN:=(r.nums.ns,r.hs.m,r.sd.ns)
abbrev Views:=List (Nat×List br)
def ng(ms:aF)(p:gj):Views:=(t7 p.side).map λs=>(s,qG ms p.classes s p.ak)
def t9(j:Views)(I:List iO)(hs:br):LN:=(j.filter λv=>mZ hs I v.2).map (·.1)
def hZ(rows:br)(nums:LN):br:=nums.map λn=>rows.getD n []
def vp(ms:aF)(rows:br)(I:List iO)(j:Views)(nums:LN):Option (LN×br×LN):=match oB ms (hZ rows nums) with
 |some (some hs)=>if t9 j I hs=[] then none else some (nums,hs,t9 j I hs)
 |_=>none
def jR(rows:br)(I:List iO):br:=I.map (qN rows)
def ua(rows:br)(I:List iO):Nat:=hJ ((jR rows I).map List.length)
def r9(ms:aF)(rows:br)(p:gj):List (LN×br×LN):=(vo (jR rows p.ak)).filterMap (vp ms rows p.ak (ng ms p))
def Di(CR:Addr)(H:Hp)(q:Addr)(rs:List pH):Prop:=H q=some (.lst (rs.map λr=>V.ref r.a))/\∀r∈rs,aV H (Au CR r)
inductive Wt(C:Cs)(CL CK eZ CE CR CT:Addr)(vs:au)(H:Hp)(Q:VK)(E:XK):Prop
 |mk (l:u4) (b:qM) (p:eT) (_:vs=[.ref l.a,.ref b.a,.ref p.a]) (_:vk CL CK H l) (_:w9 eZ CE H b) (_:wV C H p) (_:Gy Ñ Ý) (_:(ua Ý p.m.ak<=1024->∀H' q rs,ai H H'->rs.map pH.m=r9 Ñ Ý p.m->Di CR H' q rs->Q Çm H')) (_:(1024<ua Ý p.m.ak->No E CT H))
section
variable{P:Pg}{w:Wd}{K:FR}{mg:MG}{base:Heap}{CK CL CS N CV CP CB CE eZ CR CT:Addr}{C:Cs}
def nh:bO ["locker","book","plate","choices","glimpse","choice","views","side","readings","numbers","hoists","number","sides","view"] ["locker","book","plate"] (aZ Ld):=cu
inductive Wu(CR:Addr)(l:u4)(b:qM)(p:eT)(y:cg)(D3 r:Addr)(H4:Hp)(z:cg)(i:Nat)(σ:L2.St)(H':Hp):Prop
 |mk (v9 yO x6:Option V) (rs:List pH) (_:σ=[some (.ref l.a),some Çn,some Ãd,some Às,none,none,some (.ref D3),none,some Án,v9,yO,none,x6,none]) (_:ai H4 H') (_:aV H' (eX z)) (_:H' r=some (.lst (rs.map λx=>V.ref x.a))) (_:(∀x∈rs,aV H' (Au CR x)/\∀y∈Au CR x,y.1≠r)) (_:rs.length<=i) (_:rs.map pH.m=(z.m.take i).filterMap (vp Ñ Ý ñ ź))
def akC{f:Addr}{fd:FD}(F:bu K "readings_of" "readings_of" Ld f fd)(X:œ "TooMuchInDoubt" CT N)(TC:mJ K C)(TL:jN K CL ["name","kinds"])(TB:jN K eZ ["name","entries"])(TE:jN K CE ["row","meaning"])(TV:jN K CV ["side","glimpses"])(tL:mg "len"=none)(cM:Cn mg "MOST_IN_DOUBT" (.int 1024))(dI:Ç 1 "entries_in_doubt" ["book","glimpse"] (NH C eZ CE)) (dP:Ç 1 "product" ["numbers"] Wf) (dV:Ç 4 "view_of" ["kinds","plate","side"] (MI C CK CV)) (dS:Ç 1 "sides_of" ["plate"] (Wg C))(dA:Ç 1 "all_rows" ["choices"] Wi) (dD:Ç 4 "display_told" ["kinds","rows"] (Gq CK)) (dF:Ç 3 "fits" ["hoists","plate","view"] (MO C CV)) (dR:ă "Reading" CR ["entries","hoists","sides"]):
  a9 P w K mg base Ď 5 f fd ["locker","book","plate"] (Wt C CL CK eZ CE CR CT):=by
 refine F.qk nh Â;let(l,b,p,rfl,hL,hB,W,vm,k1,k2):=h;refine⟨_,aB (uO (i:=3) (own:=[("glimpse",4)]) (te:=ie (NH C eZ CE) [] E0 (bq ϓ (bq Ãy dQ))) Á nh.nd Á Á Ô (eV (bg ç Á)) Ë
   (λ_ _ _ _ _=>dw 4 nh.nd) Ö (λ_ _ _ _ _=>bx dI (ae ã Ϩ)))
  (aB (dj (cI vQ (bx dP (ae (eE (own:=[("choice",5)]) (te:=rh (We K) Ès) rfl nh.nd (eV ø) Ë
   (λ_ _ _ _ _=>dw 5 nh.nd) Ö (λ_ _ _ _ _=>df gc Ô tL PySem.boot_len Ũ)) ag)) (cf cM) (bV _)) Ú dY)
  (aB (uO (i:=6) (own:=[("side",7)]) (te:=ie (MI C CK CV) [] E0 (bq (fQ K ϔ "kinds") (bq ś (bq Èu dQ)))) rfl nh.nd rfl rfl Ô (eV (bx dS ŧ)) Ë
   (λ_ _ _ _ _=>dw 7 nh.nd) Ö (λ_ _ _ _ _=>bx dV (ae Ĉ (ae ç (ae Åv ag)))))
  (aB (cq 8 nh.nd Ī)
  (aB (mi (JD wb) rfl (eV (bx dA ĵ)) (dw 9 nh.nd)
   (aB (cq 10 nh.nd (bx dD (ae Ĉ (ae (eE (own:=[("number",11)]) (te:=fQ K (bX Ż (fQ K ϓ "entries") (ay 11)) "row") rfl nh.nd (eV (pv 9)) Ë
    (λ_ _ _ _ _=>dw 11 nh.nd) Ö (λ_ _ _ _ _=>bg (cA cZ ŀ (pv 11) Ø) rfl)) ag))))
   (aB (cq 12 nh.nd (sJ (nI (qX (pv 10))) Ī (eE (own:=[("view",13)]) (tt:=nM (ie (MO C CV) [] E0 (bq (ay 10) (bq ś (bq (ay 13) dQ))))) (te:=fQ K (ay 13) "side") rfl nh.nd (eV Ãu) Ë
    (λ_ _ _ _ _=>dw 13 nh.nd) (λ_ _ _ _ _=>qg (jD (bx dF (ae (pv 10) (ae ç (ae (pv 13) ag)))))) (λ_ _ _ _ _=>bg (pv 13) rfl))))
   (aD (dj (cI Áa (pv 12) Ī (bV _)) (aD (pZ (Ü (pv 8) (ae (qy dR hr (ae (pv 9) (ae (pv 10) (ae (pv 12) ag)))) ag)))) dY)))))
  (aD (a7 (pv 8))))))),?_⟩
 let hgf:=W.dg;apply(_,Á,bc W.l.pl TC.cP TC.nZ Åx ⟨p.gl,Á,⟨_,aa.of W.l.gl⟩,λD hD=>gy (K:=K) (a:=p.gl) (xs:=p.ak.map λg=>V.ref g.a) (jx H D λi=>(jR Ý ñ).getD i []) ĉ (λi H' _ f=>aa.of (f.same _ _ W.l.gl)) (λi v H' hi f=>?_) (λH1 f=>?_)⟩)
 .let(g,hg,rfl):=iA hi;let eA:=(bH.mp hg).1;apply(Á,eM ⟨_,Á,_,Á,b,g,Á,hB.same f.same,(W.l.sub (bI hg)).same f.same,λH3 q n=>jx.step hD Å f n.1 n.2.1 ?_⟩);rw[n.2.2];delta jR;symm
 let(y,eya,s1,U,hy,VM):=jx.end hD f;subst eya;rw[az] at U;let gS:(jR Ý ñ).length=p.ak.length:=by
  delta jR;simp
 let U:y.m=jR Ý ñ:=by
  rw[U,<-gS];let:=wU (l:=jR Ý ñ) (g:=λx=>x) (d:=[]);symm
 let sP:y.ls.length=p.ak.length:=by rw[<-iH,U,gS]
 let zt:∀c∈y.m,c.length<=2048:=λc hc=>by
  rw[U] at hc;delta jR at hc;let(g,_,rfl):=cb.mp hc;delta qN;let I:=HY (As Ý g.above g.below g.flags.length) (List.range (b.es.map aO.row).length);rw[ib,az] at I;let:=hB.e.dg;grind
 apply(_,Á,y.a,Á,⟨_,aa.of (jO hy)⟩,λD2 cK=>gy (K:=K) (a:=y.a) (xs:=y.ls.map λx=>V.ref x.a) (fX H1 D2 λi=>(((y.m.getD i []).length:Nat):Int)) (fX.zero cK) (λi H' _ f=>aa.of (f.1 _ _ (jO hy))) (λi v H' hi f2=>?_) (λH2 f2=>?_))
 .let(x,J,rfl):=iA hi;let eA:=(bH.mp J).1;apply(Á,eM ⟨_,Á,x.a,_,Á,.inl (aa.of (f2.1 _ _ (mY hy (bI J)))),fX.step cK Å f2 Ĳ ?_⟩);rw[d7,jw,CA J]
 let s2:=s1.trans f2.1;let fh:=f2.2;rw[az,<-iH] at fh;let zR:(List.range y.m.length).map (λi=>(((y.m.getD i []).length:Nat):Int))=nv Ŷ:=by
  delta nv;rw[cV];exact wU (l:=y.m) (g:=λc=>((c.length:Nat):Int)) (d:=[])
 rw[zR] at fh;let edd:ua Ý p.m.ak=hJ Ŷ:=by
  rw[U];rfl
 rw[edd] at k1 k2;apply(D2,_,Á,fh,λn hn=>?_,_,_,Á,Á,_,Á,ba Î Î)
 .grind
 .let hc:1024<hJ Ŷ:=by
   grind
  exact gM ((k2 hc).go s2)
 let hc:hJ Ŷ<=1024:=by
  grind
 let k1:=k1 hc;let Wv:=W.same s2;let mV:=hL.same s2;apply(_,Á,p,Á,Wv.l,λH3 q n3=>⟨q,Á,⟨_,aa.of n3.2.2⟩,λD3 rY=>gy (K:=K) (a:=q) (xs:=iv (nv Çx)) (om (qF CV) vb.a (λi v=>∀s,Çx[i]? =some s->v.side=s/\v.gs.map cg.m=qG Ñ p.classes s ñ) H3 D3) (ck.zero rY) (λi H' _ f=>aa.of (f.same _ _ n3.2.2)) (λi v H' hi f3=>?_) (λH4 f3=>?_)⟩)
 .let(sd,tI,rfl):=mX hi;let eA:=(bH.mp tI).1;let Bv:(t7 p.side).length<=2:=by
   delta t7;grind
  let s3:=n3.1.trans f3.same;apply(Á,eM ⟨_,Á,bc (Cr (mV.same s3).lies) TL.1 (TL.2 _ Ä) (FB l) ⟨_,Á,_,Á,l.kl,l.kinds,p,sd,Á,(mV.same s3).ks,Wv.same s3,λH5 v s5 e1 e2 lv fv=>?_⟩⟩);apply om.step rY Å f3 s5 v (λs hs=>?_) lv fv;grind
 let(vs,Jf,s3,akF,Ww,hvL,hvF):=om.end f3;rw[d7,jw] at Jf;let s4:=s2.trans (n3.1.trans s3);apply(dv _,λr tW=>?_);let s5:ai H4 (upd H4 r â):=aK tW;let Ag:(upd H4 r â) r=some â:=ao;let arP:∀b o,H4 b=some o->b≠r:=λb o e z=>by rw[z,tW] at e;cases e
 generalize upd H4 r â=H5 at s5 Ag;let hy5:=(hy.same f2.1).same ((n3.1.trans s3).trans s5);apply(_,Á,y,Á,hy5,by omega,λx J=>?_,λ_=>hc,λH6 z s6 m6 hz Dh=>?_)
 .let:=zt x.ns (by delta cg.m;exact cb.mpr ⟨x,J,Á⟩);omega
 let tK:z.a≠r:=λe=>by
  let I:=Dh (z.a,_) (fG ..);grind
 let Wx:∀x∈eX z,x.1≠r:=λx J e=>by
  let I:=Dh x J;grind
 let s46:=s5.trans s6;let hr6:=s6 _ _ Ag;let eR:r9 Ñ Ý p.m=z.m.filterMap (vp Ñ Ý ñ ź):=by
  rw[m6,U];rfl
 rw[eR] at k1;let arQ:z.ls.length<=1024:=by
  rw[<-iH,m6];delta vo;split
  .simp
  .rw[Wh];omega
 refine⟨z.a,Á,⟨_,aa.of (jO hz)⟩,vO (K:=K) (a:=z.a) (xs:=z.ls.map λx=>V.ref x.a) (Wu CR l b p y D3 r H4 z)
  ⟨none,none,none,[],rfl,s46,hz,hr6,by simp,bU _,rfl⟩ (λi σ H' _ h=>(by let(_,_,_,_,_,_,h):=h;exact aa.of (jO h))) ?_ ?_⟩
 .rintro i v σ H7 hi ⟨v9,yO,x6,rs,rfl,s7,GU,NM,yB,akK,GV⟩;let(x,J,rfl):=iA hi;let gE:=bI J;let eA:=(bH.mp J).1;let Wy:x.ns∈z.m:=by delta cg.m;exact cb.mpr ⟨x,gE,Á⟩
  let hzi:z.m[i]? =some x.ns:=by delta cg.m;rw[bz,J];rfl
  let C4:x.ns∈lG y.m:=by
   rw[m6] at Wy;delta vo at Wy;grind
  let ot:x.ns.length=p.ak.length:=by rw[NK _ _ C4,U,gS]
  let j3:=mY GU gE;let Wz:∀(j n:Nat)(g:cw),x.ns[j]? =some n->p.ak[j]? =some g->∃e,b.es[n]? =some e/\g.flags.length<=e.row.length:=λj n g I h2=>by
   let h3:=akz y.m x.ns C4 j n (qN Ý g.m) I (by rw[U];delta jR;rw[bz,bz,h2];rfl);delta qN at h3;let(h4,h5):=kJ.mp h3;simp at h4;apply(b.es[n],cY h4,?_);delta As m9 at h5;rw[getD_map (cY h4)] at h5;let eg:g.m.flags.length=g.flags.length:=by delta cw.m;rw[az]
   grind
  let GW:∀n∈x.ns,∃e,b.es[n]? =some e:=λn hn=>by
   let(j,hj,e):=pQ hn;let(e',h',_):=Wz j n p.ak[j] (by grind) (cY Å);grind
  let GX:=s4.trans s7;let hL7:=hL.same GX;let hB7:=hB.same GX;let hP7:=W.same GX;apply(_,Á,bc (Cr hL7.lies) TL.1 (TL.2 _ Ä) (FB l) ⟨_,Á,x.a,Á,⟨_,aa.of j3⟩,λD8 Gw=>gy (K:=K) (a:=x.a) (xs:=iv (nv x.ns)) (ck H7 D8 λi v ns=>∃e:aO,(∀n,x.ns[i]? =some n->b.es[n]? =some e)/\v=.ref e.rw/\ns=[]) (ck.zero Gw) (λi H' _ f=>aa.of (f.same _ _ j3)) (λj v H' hi f8=>?_) (λH8 f8=>?_)⟩)
  .let(n,hn,rfl):=mX hi;let uN:=(bH.mp hn).1;let(e,he):=GW n (bI hn);let xc:=hB7.same f8.same;let iT:=xc.e.l e (bI he);apply(Á,eM ⟨_,Á,bc xc.a TB.1 (TB.2 _ Ä) (ND b) ⟨_,Á,b.el,_,(n:Int),.ref e.a,Á,Á,aa.of xc.e.a,fU (by grind),bc (w8 iT) TE.1 (TE.2 _ Ä) (Dd e) ?_⟩⟩);apply f8.step Gw Å Ĳ ⟨e,λn' Be=>?_,Á,Á⟩ aV.nil Ä;grind
  let(ys,Y,NQ,Dj,fl):=f8.end;let(bs,rfl,r8,_):=wJ (v:=λe:aO=>V.ref e.rw) (nd:=λ_=>[]) (R:=λi e=>∀n,x.ns[i]? =some n->b.es[n]? =some e) fl;rw[az,d7,jw] at Dj;let vF:∀(j:Nat)(e:aO),bs[j]? =some e->∃n,x.ns[j]? =some n/\b.es[n]? =some e:=λj e he=>by
   let I:=(bH.mp he).1;exact(x.ns[j]' Å,cY _,r8 j e he _ (cY _))
  let qp:∀e∈bs,e∈b.es:=λe he=>by
   let(j,hj,rfl):=pQ he;let(n,_,h2):=vF j _ (cY hj);grind
  let NR:=GX.trans Y;let NS:=hL.same NR;let xc:=hB.same NR;let hP8:=W.same NR;let u9:=Y _ _ NM;let e2m:(⟨D8,bs.map λe=>⟨e.rw,e.row⟩⟩:cg).m=hZ Ý x.ns:=by
   delta cg.m hZ;rw[cV];apply Cz Dj λj e n I h2=>?_;grind
  let Ar:∀jc∈hZ Ý x.ns,jc∈b.es.map aO.row:=λjc h=>by
   rw[<-e2m] at h;delta cg.m at h;grind
  let hy2:MY H8 ⟨D8,bs.map λe=>⟨e.rw,e.row⟩⟩ l.kinds.length:=by
   apply(Ap (by rw[cV];exact NQ) λw G=>?_,by grind,λw G=>?_,λw G=>?_)
   all_goals let(e,he,rfl):=cb.mp G
   .exact De (xc.e.l e (qp e he))
   .let:=vm.short e.row (cb.mpr ⟨e,qp e he,rfl⟩);grind
   .intro s hs;let:=vm.lt e.row (cb.mpr ⟨e,qp e he,rfl⟩) s hs;grind
  let gr:((⟨D8,bs.map λe=>⟨e.rw,e.row⟩⟩:cg).m.flatten).length<=1000:=by
   let I:∀(L:br),(∀w∈L,w.length<=8)->L.flatten.length<=8*L.length:=by
    intro L;induction L with
    |nil=>simp
    |cons a L ih=>
     grind
   let h2:=I (⟨D8,bs.map λe=>⟨e.rw,e.row⟩⟩:cg).m λw G=>vm.short w (Ar w (by grind));rw[iH] at h2;grind
  let WA:=akB (q:=vp Ñ Ý ñ ź) hzi;let M:vp Ñ Ý ñ ź x.ns=match oB Ñ (hZ Ý x.ns) with
   |some (some hs)=>if t9 ź ñ hs=[] then none else some (x.ns,hs,t9 ź ñ hs)
   |_=>none:=rfl
  generalize vp Ñ Ý ñ ź x.ns=EU at WA M;let skip:EU=none->∀(H':Hp)(WB WC:Option V),ai H8 H'->Wu CR l b p y D3 r H4 z (i+1) [some (.ref l.a),some Çn,some Ãd,some Às,none,none,some (.ref D3),none,some Án,some (.ref x.a),WB,none,WC,none] H':=λen H' WB WC s'=>by
   apply(_,_,_,rs,Á,(s7.trans Y).trans s',GU.same (Y.trans s'),s' _ _ u9,λw G=>⟨(yB w G).1.same (Y.trans s'),(yB w G).2⟩,by omega,?_);grind
  cases ed:oB Ñ (hZ Ý x.ns) with
  |none=>exact absurd ed (NS.sh _ λjc hr s hs=>vm.sg jc (Ar jc hr) s hs)
  |some ro=>
  rw[ed] at M;apply(l.kl,l.kinds,_,ro,Á,NS.ks,NS.ms,hy2,gr,by grind,λhs eh H9 zz Z NU yx fzz=>?_,λeh H9 Z=>?_)
  .subst eh;let M:EU=if t9 ź ñ hs=[] then none else some (x.ns,hs,t9 ź ñ hs):=M;let WD:∀w∈eX zz,w.1≠r:=λw G e=>by
    let I:=fzz w G;grind
   let Dk:=Z _ _ u9;let evs:vs.map (λv=>(v.side,v.gs.map cg.m))=ng Ñ p.m:=Cz Jf λi v sd I h2=>by
    let(h3,h4):=Ww i v I sd h2;rw[h3,h4];rfl
   let esf:t9 ź ñ hs=(vs.filter λv=>mZ hs ñ ϱ).map vb.side:=by
    rw[<-evs];delta t9;rw[yS,cV];rfl
   rw[esf] at M;let WE:=λv hv=>(hvL v hv).same ((s7.trans Y).trans Z);let WG:=((s7.trans Y).trans Z) _ _ akF;let cO:=Wr ed;let hhl:hs.length=p.ak.length:=by
    let:=cJ List.length cO;rw[az,az] at this;rw[this];delta hZ;grind
   let akV:zz.ls.length=p.ak.length:=by rw[<-iH,NU,hhl]
   apply(_,Á,_,Á,nV ⟨_,Á,D3,Á,⟨_,aa.of WG⟩,λD9 GY=>gy (K:=K) (a:=D3) (xs:=vs.map λv=>V.ref v.a) (r6 H9 D9 vs (λv=>mZ hs ñ ϱ) λv=>V.int (v.side:Nat)) (r6.zero GY) (λi H' _ f=>aa.of (f.1 _ _ WG)) (λj v H' hi O=>?_) (λEt O=>?_)⟩)
   .let(v,hv,rfl):=iA hi;let WH:=bI hv;let uN:=(bH.mp hv).1;let Bv:(t7 p.side).length<=2:=by
     delta t7;grind
    obtain⟨sd,tI⟩:∃sd,Çx[j]? =some sd:=⟨_,cY Å⟩;let zh:=(Ww j v hv sd tI).2;let akW:v.gs.length=p.ak.length:=by
     let:=cJ List.length zh;delta qG at this;grind
    apply(Á,_,Á,_,Á,_,Á,zz,p,v,Á,yx.same O.1,(hP8.same Z).same O.1,(WE v WH).same O.1,akV,akW,λm h g s I h2 h3=>?_,λH' s'=>Ģ)
    .let e1:hs[m]? =some h.ns:=by rw[<-NU];delta cg.m;rw[bz,I];rfl
     let rk:=(bH.mp h2).1;obtain⟨n,hn⟩:∃n,x.ns[m]? =some n:=⟨_,cY Å⟩;let(e,he,hfe):=Wz m n g hn h2;let e2:(hZ Ý x.ns)[m]? =some e.row:=by
      delta hZ;grind
     let e3:=akA cO e1 e2;let e4:=vm.short e.row (cb.mpr ⟨e,bI he,rfl⟩);apply(?_,by omega,by omega);let e5:ϱ[m]? =some s.m:=by rw[bz,h3];rfl
     rw[zh] at e5;delta qG at e5;rw[bz,bz,h2] at e5;let e5:=aI e5;let e6:=cJ List.length e5;delta yo cw.m at e6;rw[az,az,iH] at e6;omega
    .rw[NU];refine ba Î Î
     .let zc:=(WE v WH).same (O.1.trans s');exact(_,Á,bc (U2 zc) TV.1 (TV.2 _ Ä) (aip v) (r6.yes GY Å O s' hv hc Á))
     .exact O.no s' hv hc
   .let oU:=O.1;let Av:=O.2;rw[az,lN] at Av;let Av:Et D9=some (.lst (iv (nv ((vs.filter λv=>mZ hs ñ ϱ).map vb.side)))):=by
     rw[Av];simp
    generalize ((vs.filter λv=>mZ hs ñ ϱ).map vb.side)=S at M Av;apply(_,Á,dv _,λe he=>⟨D9,e,_,Á,Á,aa.of ((Èf) _ _ Av),aa.of ao,_,Á,ba (λaU=>?_) (λaU=>?_)⟩)
    .let aU:¬S=[]:=λz=>by
      grind
     rw[ah aU] at M;let lr:ai H8 (upd Et e â):=(Z.trans oU).trans Èf;let WI:=(aK (o:=.lst []) he) _ _ Av;let WJ:=(yx.same oU).same (aK (o:=.lst []) he);generalize upd Et e â=BS at lr WI WJ;let NV:=lr _ _ u9;apply(_,Á,.inl ⟨Á,_,aa.of NV⟩,_,Á,_,Á,_,Á,?_);intro a dx ha iW arU;refine⟨a,dx,[.ref x.a,.ref zz.a,.ref D9],Á,Á,ao,λH12 e12 e2=>ų⟩;let fg:=λb o eb=>e2 b o (by rw[aq (eQ eb ha),aq (eQ eb iW)];exact eb) (eQ eb ha);let akZ:=fg _ _ NV;let WK:a≠r:=λz=>by rw[z,NV] at ha;cases ha
     let hDr:D9≠r:=λz=>by rw[z,Dk] at GY;cases GY
     let GZ:=Y.trans (lr.trans fg);let arV:=GZ _ _ j3;let WL:=λw G=>Wx w (by delta eX;exact aP _ (kZ.mpr ⟨x,gE,G⟩));apply(r,_,_,Á,Á,akZ,by rw[az];exact gi Å,_,_,_,rs++[⟨a,dx,x,zz,⟨D9,S⟩⟩],rfl,fe (s7.trans GZ) tW,λw G=>?_,?_,λw G=>?_,by grind,?_)
     .rw[aq (Wx w G)];exact(GU.same GZ) w G
     .rw[ao,bZ];rfl
     .rcases gQ.mp G with G|G
      .exact(λq hq=>by rw[aq ((yB w G).2 q hq)];exact((yB w G).1.same GZ) q hq,(yB w G).2)
      .obtain rfl:w=_:=by simpa using G
       refine⟨Ws (by show upd H12 r _ a=_;rw[aq WK];exact e12) Æh Æh Æh,Ws WK WL WD Æh⟩
       .rw[aq (WL q hq)];simp only[lsN,nu] at hq;grind
       .rw[aq (WD q hq)];exact(WJ.same fg) q hq
       .simp only[lsN,nu] at hq;subst hq;rw[aq hDr];exact fg _ _ WI
       .simp only[lsN,nu] at hq;grind
     .rw[WA,M,bZ,GV];show _++[(x.ns,zz.m,S)]=_;grind
    .let aU:S=[]:=by
      cases S with
      |nil=>rfl
      |cons a b=>grind
     rw[af aU] at M;exact skip M _ _ _ ((Z.trans oU).trans Èf)
  .subst eh;refine⟨_,Á,_,Á,lx ⟨dv _,λd hd=>⟨_,Á,dv _,λe he=>⟨d,e,_,Á,Á,aa.of ((Èf) _ _ ao),aa.of ao,_,Á,nV (skip M _ _ _ (Z.trans ((aK hd).trans Èf)))⟩⟩⟩⟩
 .rintro σ H7 ⟨v9,yO,x6,rs,rfl,s7,GU,NM,yB,akK,GV⟩;rw[az,<-iH,lN] at GV;exact(_,Á,k1 H7 r rs (s4.trans s7) GV ⟨NM,λx J=>(yB x J).1⟩)
end
structure G0(ms:aF):Prop where
 look:∀k∈ms,iX k.look
 mo:wZ ms
 sh:∀rows,(∀r∈rows,∀s∈r,jP ms s=true)->oB ms rows≠none
structure G1(m:gj):Prop where
 yp:m.classes.length=16
 dg:m.ak.length<=100
 flags:∀g∈m.ak,g.flags.length<=100
 cells:∀g∈m.ak,∀s∈g.flags,s.2.length=16
structure Aw where
 a:Addr
 dx:Addr
 q:Addr
 l:u4
 b:qM
 p:eT
 rs:List pH
def G2(f:Aw):List (Str×V):=[("locker",.ref f.l.a),("book",.ref f.b.a),("plate",.ref f.p.a),("readings",.ref f.q)]
def WM(f:Aw):(G2 f).lookup ("readings":Str)=some (.ref f.q):=(fw Ê).trans ((fw Ê).trans ((fw Ê).trans gZ))
structure Kn where
 C:Cs
 CL:Addr
 CK:Addr
 eZ:Addr
 CE:Addr
 CR:Addr
 CF:Addr
structure WN(k:Kn)(H:Hp)(f:Aw):Prop where
 a:H f.a=some (.ins k.CF f.dx (G2 f))
 l:vk k.CL k.CK H f.l
 b:w9 k.eZ k.CE H f.b
 p:wV k.C H f.p
 rs:Di k.CR H f.q f.rs
def Di.same{CR:Addr}{H H':Hp}{q:Addr}{rs:List pH}(h:Di CR H q rs)(s:ai H H'):Di CR H' q rs:=⟨s _ _ h.1,λr hr=>(h.2 r hr).same s⟩
structure WO(f:Aw)(x:LI×aF)(y:LI×List (LN×LI))(m:gj):Prop where
 n:f.l.name=x.1
 k:f.l.kinds.map aA.m=x.2
 b:f.b.m=y
 p:f.p.m=m
 r:f.rs.map pH.m=r9 x.2 (y.2.map (·.1)) m
inductive WQ(K:FR)(k:Kn)(CN CB oC CT:Addr)(vs:au)(H:Hp)(Q:VK)(E:XK):Prop
 |mk (at_ ab ap:Addr) (t b p:LI) (_:vs=[.ref at_,.ref ab,.ref ap]) (_:ä at_ (iv t)) (_:ä ab (iv b)) (_:ä ap (iv p)) (_:t.length<=66000) (_:b.length<=66000) (_:p.length<=66000) (_:(∀x,gn t=some x->G0 x.2)) (_:(∀m,g7 p=.ok m->G1 m)) (_:(gn t=none->No E CN H)) (_:∀x,gn t=some x->(jA x.1 x.2 b=none->No E CB H)/\∀y,jA x.1 x.2 b=some y->(∀e,g7 p=.error e->∀H' d,ai H H'->H' d=some (uT d (LJ e.1 e.2))->E (.ref oC) (some d) H')/\∀m,g7 p=.ok m->(1024<ua (y.2.map (·.1)) m.ak->No E CT H)/\(ua (y.2.map (·.1)) m.ak<=1024->∀H' f,ai H H'->WN k H' f->WO f x y m->Q (.ref f.a) H'))
section
variable{P:Pg}{w:Wd}{K:FR}{mg:MG}{base:Heap}{CN CB oC CT CF:Addr}{k:Kn}
def G3:bO ["t","b","p","locker","book","plate"] ["t","b","p"] (aZ Ll):=cu
def ak1(F:bu K "found" "found" Ll f fd)(dL:Ą Ď 6 "read_locker" ["text"] (UB K k.CL k.CK CN))(dB:Ą Ď 6 "read_book" ["locker","text"] (Wa K k.CL k.CK CB k.CE k.eZ))(dP:Ą Ď 6 "read_plate" ["text"] (T9 K k.C oC))(dR:Ą Ď 5 "readings_of" ["locker","book","plate"] (Wt k.C k.CL k.CK k.eZ k.CE k.CR CT)) (dF:ă "Finding" k.CF ["locker","book","plate","readings"]):Ì Ď 7 f fd ["t","b","p"] (WQ K k CN CB oC CT):=by
 let(fL,fdL,GL,mL,kL,bL):=dL;let(fB,fdB,GB,mB,kB,bB):=dB;let(fP,Lr,GP,mP,kP,bP):=dP;let(fR,fdR,GR,mR,kR,bR):=dR;refine F.qk G3 Â;let(at_,ab,ap,t,b,p,rfl,hT,hB,hP,lT,lB,lP,gL,gP,k1,k2):=h;let hr5:dy 5 _:=hr.mono Ù;refine⟨_,aB (cq 3 G3.nd (mq GL hr Á mL kL bL .nil rD ó))
  (aB (cq 4 G3.nd (mq GB hr rfl mB kB bB .nil rD (ae ø Ř)))
  (aB (cq 5 G3.nd (mq GP hr rfl mP kP bP .nil rD ŧ))
  (aD (a7 (qy dF hr (ae ø (ae Ĵ (ae Äo (ae (mq GR hr5 rfl mR kR bR .nil rD (ae ø (ae Ĵ Ũ))) ag))))))))),?_⟩
 apply(_,Á,at_,t,Á,hT,lT,λx ex H1 l s1 U j hl lk=>?_,k1);let(k2,k3):=k2 x ex;let I:=gL x ex;let Y:vk k.CL k.CK H1 l:=by
  rw[<-j] at I;exact(hl,lk,λq hq=>I.look q.m (cb.mpr ⟨q,hq,Á⟩),I.mo,I.sh)
 apply(_,Á,_,Á,l,ab,b,Á,Y,s1.seq hB,lB,λy ey H2 bk s2 e3 hb rs=>?_,λen=>?_)
 .rw[U,j] at ey;let(k3,k4):=k3 y ey;let W:=s1.trans s2;apply(_,Á,ap,p,Á,W.seq hP,lP,λm em M pl S hp z=>?_,λe ee M d S hd=>k3 e ee M d (W.trans S) hd);let(k4,k5):=k4 m em;let gp:=gP m em;let qz:=W.trans S;let WR:wV k.C M pl:=by
   subst z;exact(hp,gp.yp,by let:=gp.dg;delta eT.m at this;rw[az] at this;exact this,λg Z=>(by let:=gp.flags g.m (cb.mpr ⟨g,Z,rfl⟩);delta cw.m at this;rw[az] at this;exact this),λg Z s hs=>gp.cells g.m (cb.mpr ⟨g,Z,rfl⟩) s.m (cb.mpr ⟨s,hs,rfl⟩))
  let O:bk.es.map aO.row=y.2.map (·.1):=by
   rw[<-e3];delta qM.m;rw[cV];rfl
  apply(_,Á,_,Á,_,Á,_,Á,_,Á,_,Á,l,bk,pl,Á,(Y.same s2).same S,hb.same S,WR,rs,λhd H4 q rds J e5 hr4=>?_,λhd=>?_)
  .rw[O,z] at hd;rw[O,j,z] at e5;apply wD Á λa dx H5 ha iW aU e6 G=>?_;refine k5 hd H5 ⟨a,dx,q,l,bk,pl,rds⟩ ((qz.trans J).trans G) ⟨e6,(((Y.same s2).same S).same J).same G,((hb.same S).same J).same G,(WR.same J).same G,hr4.same G⟩ ⟨U,j,e3,z,e5⟩
  .rw[O,z] at hd;exact(k4 hd).go qz
 .rw[U,j] at en;exact(k2 en).go s1
end
def refusal(t b p:LI):Option Int:=if 65536<t.length\/65536<b.length\/65536<p.length then some (-2) else match gn t with
 |none=>some (-6)
 |some x=>match jA x.1 x.2 b with
  |none=>some (-9)
  |some y=>match g7 p with
   |.error _=>some (-8)
   |.ok m=>if 1024<ua (y.2.map (·.1)) m.ak then some (-7) else none
def mx3(a b c:Nat):decide (zH (zH ((a:Nat):Int) ((b:Nat):Int)) ((c:Nat):Int)>65536)=decide (65536<a\/65536<b\/65536<c):=by
 rw[Zd];delta zH;split <;> split <;> omega
inductive WS(K:FR)(k:Kn)(q:Str)(fdOf:Addr->Value->FuncData)(vx:Sp)(vs:au)(H:Hp)(Q:VK)(E':XK):Prop
 |mk (at_ ab ap f:Addr) (t b p:LI) (_:vs=[.ref at_,.ref ab,.ref ap,.ref f]) (_:BY H f q fdOf) (_:ä at_ (iv t)) (_:ä ab (iv b)) (_:ä ap (iv p)) (_:t.length<=66000) (_:b.length<=66000) (_:p.length<=66000) (_:(∀x,gn t=some x->G0 x.2)) (_:(∀m,g7 p=.ok m->G1 m)) (_:(∀z,Ű p=some z->∀H' r,H' r=some (.lst [.int z])->Q Án H')) (_:(Ű p=none->∀x y m,gn t=some x->jA x.1 x.2 b=some y->g7 p=.ok m->∀H' f,ai H H'->WN k H' f->WO f x y m->vx [.ref f.a] H' Q E0))
def WT{fdOf:Addr->Value->FuncData}(h:BY H f q fdOf)(s:ai H H'):BY H' f q fdOf:=let ⟨c,iM,a,b⟩:=h;⟨c,iM,s _ _ a,s _ _ b⟩
abbrev Ax(n:Int):TS:=Bi (zf (bq (Ei (rU λi=>.int (-i)) (tC (.int n))) dQ))
section
variable{P:Pg}{w:Wd}{K:FR}{mg:MG}{base:Heap}{CN CB oC CT CF N1 N2 N3 N4:Addr}{k:Kn}{q:Str}{fdOf:Addr->Value->FuncData}{vx:Sp}
def WU:bO ["t","b","p","told","finding"] ["t","b","p","told"] (aZ Lk):=cu
def ak6(F:bu K "answered" "answered" Lk f fd)(W:œ "NoLocker" CN N1)(U:œ "NoBook" CB N2)(XP:Fw K mg oC N3)(Y:œ "TooMuchInDoubt" CT N4)(nd:[CN,CB,oC,CT].Nodup)(tL:mg "len"=none)(tM:mg "max"=none)(cM:Cn mg "MOST_BYTES" (.int 65536))(dF:Ą Ď 7 "found" ["t","b","p"] (WQ K k CN CB oC CT)) (L:E3 P w K mg base 7 q fdOf ["finding"] vx):Ì aE 8 f fd ["t","b","p","told"] (WS K k q fdOf vx):=by
 let(fF,arZ,GF,mF,kF,bF):=dF;refine F.ok WU Â;let(at_,ab,ap,lf,t,b,p,rfl,WV,hT,hB,hP,lT,lB,lP,gL,gP,k1,k2):=h;simp only[kO,a0,lO,lQ,not_or,not_false_eq_true,A3,and_true] at nd;let((n1,n2,n3),(n4,n5),n6):=nd;refine⟨_,aB (dj (cI vQ (df (aeY Á) Ô tM Gd (ae ć (ae ý (ae ü ag)))) (cf cM) (bV _)) (aD č) dY)
  (aB (Se ⟨rfl,rfl⟩ (Sf (i:=4) WU.nd rfl Çf GF hr rfl mF kF bF (ae Û (ae ã ŧ)))
   (BP (ts:=Ax 6) W.c rfl W.mC Ãp
   (BP (ts:=Ax 9) U.c rfl U.mC Ãp
   (BP (ts:=Ax 8) XP.c rfl XP.mC Ãp
   (BP (ts:=Ax 7) Y.c rfl Y.mC Ãp Sa)))))
  (aD (a7 (aeQ (i:=3) L hr rfl Çf Ϩ)))),?_⟩
 apply(_,Á,at_,_,Á,.inl hT,_,Á,ab,_,Á,.inl hB,_,Á,ap,_,Á,.inl hP,_,_,_,Á,_,_,Á,Á,_,Á,?_);rw[d7,d7,d7,mx3];let j:Ű p=if 65536<t.length\/65536<b.length\/65536<p.length then some (-2) else match gn t with
  |none=>some (-6)
  |some x=>match jA x.1 x.2 b with
   |none=>some (-9)
   |some y=>match g7 p with
    |.error _=>some (-8)
    |.ok m=>if 1024<ua (y.2.map (·.1)) m.ak then some (-7) else none:=rfl
 generalize refusal t b p=rf at j k1 k2;let G:∀(z n:Int),rf=some z->z= -n->∀(D:Ends)(σ:L2.St)(H':Hp),(∀r oW,oW r=some (.lst [.int z])->D.rt Án oW)->Ax n D σ H':=λz n _ e2 D σ H' hD=>by
  subst e2;exact(_,Á,(by show 1<=sizeLine;decide),λr hr=>hD r _ ao)
 refine ba Î Î
 .let hc:65536<t.length\/65536<b.length\/65536<p.length:=by simpa using hc
  rw[af hc] at j;exact G _ _ j Á _ _ _ λr H' e=>k1 _ j H' r e
 .let hc:¬(65536<t.length\/65536<b.length\/65536<p.length):=by simpa using hc
  rw[ah hc] at j;apply(_,Á,_,Á,_,Á,at_,ab,ap,t,b,p,Á,hT,hB,hP,lT,lB,lP,gL,gP,λen H1 S=>?_,λx ex=>⟨λen H1 S=>?_,λy I=>⟨λe ee H1 d S hd=>?_,λm Z=>⟨λhd H1 S=>?_,λhd H1 fd S ok is=>?_⟩⟩⟩)
  .rw[en] at j;exact(CN,N1,Á,W.c,λa M iW fl=>⟨λ_ O J=>G _ _ j Á _ _ _ λr H' e=>k1 _ j H' r e,λz=>absurd Á z⟩)
  .rw[ex] at j;dsimp only at j;rw[en] at j;exact(CB,N2,Á,U.c,λa M iW fl=>⟨λz=>absurd z.symm n1,λ_=>⟨λ_ O J=>G _ _ j Á _ _ _ λr H' e=>k1 _ j H' r e,λz=>absurd Á z⟩⟩)
  .rw[ex] at j;dsimp only at j;rw[I] at j;dsimp only at j;rw[ee] at j;exact(oC,N3,Á,XP.c,λa M iW fl=>⟨λz=>absurd z.symm n2,λ_=>⟨λz=>absurd z.symm n4,λ_=>⟨λ_ O J=>G _ _ j Á _ _ _ λr H' e=>k1 _ j H' r e,λz=>absurd Á z⟩⟩⟩)
  .rw[ex] at j;dsimp only at j;rw[I] at j;dsimp only at j;rw[Z] at j;dsimp only at j;rw[af hd] at j;exact(CT,N4,Á,Y.c,λa M iW fl=>⟨λz=>absurd z.symm n3,λ_=>⟨λz=>absurd z.symm n5,λ_=>⟨λz=>absurd z.symm n6,λ_=>⟨λ_ O J=>G _ _ j Á _ _ _ λr H' e=>k1 _ j H' r e,λz=>absurd Á z⟩⟩⟩⟩)
  .rw[ex] at j;dsimp only at j;rw[I] at j;dsimp only at j;rw[Z] at j;dsimp only at j;rw[ah Å] at j;exact(lf,Á,WT WV S,_,Á,WT WV S,Á,k2 j x y m ex I Z H1 fd S ok is)
end
end HD
end
section
namespace L2
open PySem PySem.Spec PyProof.Rows
def ak7{X:Cx}:eW X (compareOp .GtE) (gu λi j=>.bl (decide (j<=i))):=Ek λ_ _ _ _ _ _ _ q=>ge_int q
def ak8{X:Cx}{a:Expr}{ta:TE}{j jU}(z:ϣ ta):PC X .IsNot a Ãf (λσ H Q=>ta σ H λx H1=>Q (.bl (!decide (x=.aL))) H1):=by
 show Ò;apply aN (z pins s σ H _ I h) λv S ⟨x,H1,m,G,F⟩=>?_;exact Pq (isnot_none_gen ⟨.bl _,H1,m,by rw[G.Iz];rfl,F⟩)
end L2
namespace HD
open PySem PySem.Spec PyProof.Rows L2
open PySem.W (Codec)
def Ay:List Stmt->Option Expr
 |[.Return (some (.Call _ [_,_,_,e] _ _)) _]=>some e
 |_=>none
def WW:Option Expr->Option Arguments
 |some (.Lambda a _ _ _)=>some a
 |_=>none
def WX:Option Expr->Option Expr
 |some (.Lambda _ b _ _)=>some b
 |_=>none
def WY:Option Expr->Option Scope
 |some (.Lambda _ _ s _)=>some s
 |_=>none
def ak9:(WW Âm).isSome=true:=by rfl
def ala:(WX Âm).isSome=true:=by rfl
def alb:(WY Âm).isSome=true:=by rfl
abbrev mA:Arguments:=(WW Âm).get ak9
abbrev mB:Expr:=(WX Âm).get ala
abbrev mS:Scope:=(WY Âm).get alb
abbrev yC:Str:="says.<locals>.<lambda>"
abbrev ub:LS:=["spell","more"]
def si(acc:Option LI)(m:LI):Option LI:=match acc with
 |none=>none
 |some t=>if bj ť m=none then some (if t=[] then m else t++32::m) else none
def Az(ms:c7):Option LI:=ms.foldl si Ãg
theorem WZ(ms:c7):ms.foldl si none=none:=by
 induction ms with
 |nil=>rfl
 |cons m r I=>exact I
theorem W0(ms:c7)(h:∀m∈ms,m.length<=64):∀i t,(ms.take i).foldl si Ãg=some t->t.length<=65*i:=by
 intro i;induction i with
 |zero=>
  intro t e;rw[Y7] at e;rw[<-aI e];exact dv _
 |succ i I=>
  intro t e;cases hm:ms[i]? with
  |none=>
   rw[AY (by let:=aqy.mp hm;omega)] at e;let:=I t (by rw[AY (aqy.mp hm)];exact e);omega
  |some m=>
   rw[take_snoc hm,P8] at e;cases et:(ms.take i).foldl si Ãg with
   |none=>rw[et] at e;cases e
   |some t'=>
    let j:=I t' et;let h2:=h m (bI hm);rw[et] at e;let e:(if bj ť m=none then some (if t'=[] then m else t'++32::m) else none)=some t:=e;split at e
    .rw[<-aI e];split
     .omega
     .rw[lJ,dc];omega
    .cases e
def NX(e:aO):(Dc e).lookup ("meaning":Str)=some (.ref e.mn):=(fw Ê).trans gZ
def G5{CE:Addr}{H:Hp}{e:aO}(h:aV H Âf):H e.mn=some (.lst (iv e.gH)):=h (e.mn,_) (by simp[kC])
inductive W1(CE CY:Addr)(vs:au)(H:Hp)(Q:VK)(E:XK):Prop
 |mk (q:Addr) (es:List aO) (_:vs=[.ref q]) (_:H q=some (.lst (es.map λe=>V.ref e.a))) (_:∀e∈es,aV H Âf) (_:es.length<=100) (_:∀e∈es,e.gH.length<=64) (_:∀t,Az Âh=some t->∀H' r,o4 H H' r (.lst (iv t))->Q Án H') (_:Az Âh=none->No E CY H)
section
variable{P:Pg}{w:Wd}{K:FR}{mg:MG}{base:Heap}{CE CY N:Addr}{k:Kn}
def NZ:bO ["entries","text","entry"] ["entries"] (aZ Li):=cu
inductive TlI(q D:Addr)(es:List aO)(H:Hp)(i:Nat)(σ:L2.St)(H':Hp):Prop
 |mk (v2:Option V) (t:LI) (_:σ=[some Çm,some Àt,v2]) (_:ai H H') (_:H' D=some (.lst (iv t))) (_:((es.map aO.gH).take i).foldl si Ãg=some t)
def ald{f:Addr}{fd:FD}(F:bu K "entries_tell" "entries_tell" Li f fd)(X:œ "TellsNothing" CY N)(TE:jN K CE ["row","meaning"])(cB:Cn mg "BLANK" Åe)(cS:Tn K mg "SPELLING" (ub.map V.str))(dA:Ç 2 "place_among" ["words","part"] (B6 K)):Ì Ď 3 f fd ["entries"] (W1 CE CY):=by
 let(aS,mS,hS):=cS;refine F.qk NZ Â;let(q,es,rfl,hq,GW,EH,rk,k1,k2):=h;refine⟨_,aB (cq 1 NZ.nd Ī)
  (aB (mi (JD wb) rfl Äu (dw 2 NZ.nd)
   (aB (dj (nI (ak8 (bx dA (ae (uF (v:=.ref aS) Ô mS rfl) Š)))) Ú dY)
   (aB (dj (cI Áa ã Ī (bV _)) (aD (pZ (Ü ã ž))) dY)
   (aD (pZ (ċ ã Š))))))
  Çe),?_⟩
 apply(dv _,λD I=>?_);let s1:ai H (upd H D â):=aK I;refine⟨_,Á,q,Á,⟨_,aa.of (s1 _ _ hq)⟩,vO (K:=K) (a:=q) (xs:=es.map λe=>V.ref e.a) (TlI q D es H)
  ⟨none,[],rfl,s1,ao,rfl⟩ (λi σ H' _ h=>(by let(_,_,_,S):=h;exact aa.of (S _ _ hq))) ?_ ?_⟩
 .rintro i v σ H2 hi ⟨v2,t,rfl,S,fh,J⟩;let(e,M,rfl):=iA hi;let u6:=bI M;let eA:=(bH.mp M).1;let W:=(GW e u6).same S;let emi:Âh[i]? =some e.gH:=by rw[bz,M];rfl
  let j:((es.map aO.gH).take (i+1)).foldl si Ãg=if bj ť e.gH=none then some (if t=[] then e.gH else t++32::e.gH) else none:=by
   rw[take_snoc emi,P8,J];rfl
  let Ga:=W0 Âh (λm hm=>by let(e,M,rfl):=cb.mp hm;exact rk e M) i t J;let M3:=rk e u6;apply(_,Á,bc (w8 W) TE.1 (TE.2 _ Ä) (NX e) ⟨aS,e.mn,ub,e.gH,Á,hS _,Ù,aa.of (G5 W),λO Y=>?_⟩);let nX:=Y _ _ fh;let ar0:=Y _ _ (G5 W);let W2:=S.trans Y;refine⟨_,Á,ba Î Î⟩
  .apply gM ((k2 ?_).go W2);let ha:bj ť e.gH≠none:=λz=>by rw[z] at hc;simp[oI] at hc
   delta Az;rw[<-HW (i+1) Âh,P8,j,ah ha];exact WZ _
  let ha:bj ť e.gH=none:=by
   cases z:bj ť e.gH with
   |none=>rfl
   |some n=>rw[z] at hc;simp[oI] at hc
  rw[af ha] at j;let nD:∀x∈kC CE e,x.1≠D:=λx hx z=>by
   let h1:=GW e u6 x hx;rw[z,I] at h1;cases h1
  apply(_,Á,dv _,λz hz=>?_);let Z:ai O (upd O z â):=aK hz;let G:=Z _ _ nX;let wy:=(W.same Y).same Z;let yd:=W2.trans Z;let W3:upd O z â z=some â:=ao;generalize upd O z â=H4 at Z G wy yd W3;refine⟨D,z,_,Á,Á,aa.of G,aa.of W3,_,Á,ba Î Î⟩
  .let U:¬t=[]:=λz=>by rw[z] at hc;simp at hc
   rw[ah U] at j;let Ck:=wy.upd (o:=.lst (iv t++[.int 32])) nD;apply(_,Á,.inl ⟨Á,_,aa.of G⟩,D,_,_,Á,Á,G,gi (by rw[d7];omega),?_);apply(_,Á,.inl ⟨Á,_,aa.of ao⟩,_,Á,bc (w8 Ck) TE.1 (TE.2 _ Ä) (NX e) ⟨D,e.mn,_,_,Á,Á,ao,G5 Ck,pN (gi (by rw[lJ,d7,d7,aqz];omega)),?_⟩);apply(_,_,Á,fe (fe yd I) I,?_,j);rw[ao];simp
  .let U:t=[]:=by
    cases t with
    |nil=>rfl
    |cons x r=>simp at hc
   rw[af U] at j;apply(_,Á,.inl ⟨Á,_,aa.of G⟩,_,Á,bc (w8 wy) TE.1 (TE.2 _ Ä) (NX e) ⟨D,e.mn,_,_,Á,Á,G,G5 wy,pN (gi (by rw[d7,d7];omega)),?_⟩);apply(_,_,Á,fe yd I,?_,j);rw[ao,U];rfl
 .rintro σ H2 ⟨v2,t,rfl,S,fh,J⟩;rw[az,<-az (f:=aO.gH),lN] at J;exact(_,Á,k1 t J H2 D ⟨S,I,fh⟩)
def yD(rs:br)(ms:c7)(i:Nat):LI:=match rs[i]? with
 |none=>[-4]
 |some ns=>match Az (ns.map λn=>ms.getD n []) with
  |none=>[-5]
  |some t=>((t.length:Nat):Int)::t
inductive N0(k:Kn)(vs:au)(H:Hp)(Q:VK)(E':XK):Prop
 |mk (f:Aw) (i:Nat) (_:vs=[.int ((i:Nat):Int),.ref f.a]) (_:H f.a=some (.ins k.CF f.dx (G2 f))) (_:w9 k.eZ k.CE H f.b) (_:H f.q=some (.lst (f.rs.map λr=>V.ref r.a))) (_:∀r∈f.rs,(r.nums.ns.length<=100/\∀n∈r.nums.ns,n<f.b.es.length)/\H r.a=some (.ins k.CR r.dx (GQ r))/\H r.nums.a=some (.lst (iv (nv r.nums.ns)))) (_:∀e∈f.b.es,e.gH.length<=64) (_:∀H' r,H' r=some (.lst (iv (yD (f.rs.map λr=>r.nums.ns) (f.b.es.map aO.gH) i)))->Q Án H')
def alf(f:Aw):(G2 f).lookup ("book":Str)=some (.ref f.b.a):=(fw Ê).trans gZ
def alg(r:pH):(GQ r).lookup ("entries":Str)=some (.ref r.nums.a):=gZ
def G6:bO ["i","finding","text","number"] ["i","finding"] (aZ Lj):=cu
def alh{f:Addr}{fd:FD}(F:bu K "says_told" "says_told" Lj f fd)(T:jN K k.CF ["locker","book","plate","readings"])(TR:jN K k.CR ["entries","hoists","sides"])(TB:jN K k.eZ ["name","entries"])(X:œ "TellsNothing" CY N)(tL:mg "len"=none)(dT:Ą Ď 3 "entries_tell" ["entries"] (W1 k.CE CY)):Ì aE 6 f fd ["i","finding"] (N0 k):=by
 let(fT,fdT,GT,mT,kT,bT):=dT;refine F.ok G6 Â;let(fd,i,rfl,U,hB,hq,Gz,rk,q):=h;let B9:dy 3 _:=hr.mono Ù;refine⟨_,aB (dj (cI ak7 Û Œ (bV _)) (aD č) dY)
  (aB (Se ⟨rfl,rfl⟩ (Sf (i:=2) G6.nd rfl Çf GT B9 rfl mT kT bT (ae (eE (own:=[("number",3)]) (te:=bX Ż (fQ K (fQ K ϓ "book") "entries") ŗ) rfl G6.nd (eV (bg (cA cZ ŀ Û Ø) rfl)) Ë
    (λ_ _ _ _ _=>dw 3 G6.nd) Ö (λ_ _ _ _ _=>cA cZ (bg ŀ rfl) ø Ø)) ag))
   (BP (ts:=Ax 5) X.c rfl X.mC Ãp Sa))
  (aD (a7 (eS Q8 (d9 (ae ü ag)) ç)))),?_⟩
 apply(_,Á,_,Á,bc U T.1 (T.2 _ Ä) (WM fd) ⟨fd.q,_,Á,.inl (aa.of hq),_,_,Á,Á,_,Á,?_⟩);rw[az];refine ba Î Î
 .let hc:fd.rs.length<=i:=by simpa using hc
  apply(_,Á,(by show 1<=sizeLine;decide),λr hr=>q _ r ?_);rw[ao];delta yD;rw[xp (by rw[az];exact hc)];rfl
 .let hc:i<fd.rs.length:=by simpa using hc
  let hi:fd.rs[i]? =some fd.rs[i]:=cY hc;let((r1,r4),r2,Z):=Gz _ (bI hi);let S:yD (fd.rs.map λr=>r.nums.ns) (fd.b.es.map aO.gH) i=match Az (fd.rs[i].nums.ns.map λn=>(fd.b.es.map aO.gH).getD n []) with
   |none=>[-5]
   |some t=>((t.length:Nat):Int)::t:=by
   delta yD;rw[bz,hi];rfl
  generalize fd.rs[i]=I at r1 r2 Z r4 S hi;apply(_,Á,bc U T.1 (T.2 _ Ä) (WM fd) ⟨_,Á,fd.q,_,_,_,Á,Á,aa.of hq,fU (by rw[bz,hi];rfl),bc r2 TR.1 (TR.2 _ Ä) (alg _) ⟨I.nums.a,Á,⟨_,aa.of Z⟩,λD hD=>gy (K:=K) (a:=I.nums.a) (xs:=iv (nv I.nums.ns)) (ck H D λi v ns=>∃e:aO,(∀n,I.nums.ns[i]? =some n->fd.b.es[n]? =some e)/\v=.ref e.a/\ns=[]) ĉ (λi H' _ f=>aa.of (f.same _ _ Z)) (λj v H' hi J=>?_) (λH8 J=>?_)⟩⟩)
  .let(n,W,rfl):=mX hi;let uN:=(bH.mp W).1;let tP:=r4 n (bI W);let G:fd.b.es[n]? =some fd.b.es[n]:=cY tP;let xc:=hB.same J.same;apply(Á,eM ⟨_,Á,bc (J.same _ _ U) T.1 (T.2 _ Ä) (alf fd) (bc xc.a TB.1 (TB.2 _ Ä) (ND _) ⟨_,Á,fd.b.el,_,(n:Int),.ref fd.b.es[n].a,Á,Á,aa.of xc.e.a,fU (by rw[bz,G];rfl),?_⟩)⟩);apply J.step hD Å Ĳ ⟨fd.b.es[n],λn' Be=>?_,Á,Á⟩ aV.nil Ä;rw[W] at Be;rw[<-aI Be,G]
  let(ys,s8,NQ,Dj,fl):=J.end;let(bs,rfl,r8,_):=wJ (v:=λe:aO=>V.ref e.a) (nd:=λ_=>[]) (R:=λi e=>∀n,I.nums.ns[i]? =some n->fd.b.es[n]? =some e) fl;rw[az,d7,jw] at Dj;let vF:∀(j:Nat)(e:aO),bs[j]? =some e->∃n,I.nums.ns[j]? =some n/\fd.b.es[n]? =some e:=λj e G=>by
   let h1:=(bH.mp G).1;exact(I.nums.ns[j]' Å,cY _,r8 j e G _ (cY _))
  let Y:∀e∈bs,e∈fd.b.es:=λe G=>by
   let(j,hj,rfl):=pQ G;let(n,_,h2):=vF j _ (cY hj);exact bI h2
  let em:bs.map aO.gH=I.nums.ns.map λn=>(fd.b.es.map aO.gH).getD n []:=by
   apply Cz Dj λj e n h1 h2=>?_;let(n',h3,h4):=vF j e h1;rw[h2] at h3;rw[aI h3,iC,bz,h4];rfl
  rw[<-em] at S;rw[S] at q;apply(D,bs,Á,NQ,λe G=>(hB.e.l e (Y e G)).same s8,by omega,λe G=>rk e (Y e G),λt M H9 r n9=>?_,λM H9 s9=>?_)
  .rw[M] at q;let O:=n9.2.2;let Ga:=W0 (bs.map aO.gH) (λm hm=>by let(e,G,rfl):=cb.mp hm;exact rk e (Y e G)) bs.length t (by rw[<-az (f:=aO.gH),lN];exact M);apply(_,Á,r,_,Á,.inl (aa.of O),(by show 1<=sizeLine;decide),λp hp=>⟨_,Á,p,r,_,_,Á,Á,ao,(by rw[aq (eQ O hp)];exact O),?_,λp2 qT=>q _ p2 ?_⟩)
   .show 1+(iv t).length<=sizeLine;rw[d7];exact pN (gi Å)
   .rw[ao];show some (HO.lst ([.int _]++iv t))=some (.lst (iv (((t.length:Nat):Int)::t)));rw[d7];rfl
  .rw[M] at q;exact(CY,N,Á,X.c,λa H3 iW fl=>⟨λ_ H4 G4=>⟨_,Á,(by show 1<=sizeLine;decide),λr hr=>q _ r ao⟩,λz=>absurd Á z⟩)
def ali:JQ "finding" "i" mS:=⟨rfl,rfl,rfl,rfl,rfl,by decide+kernel,by decide+kernel⟩
abbrev W4(k:Kn)(i:Nat):Sp:=λvs H Q E=>N0 k (.int ((i:Nat):Int)::vs) H Q E
def alj{cx:Addr}{i:Nat}{pm:Value}(j:Ç 6 "says_told" ["i","finding"] (N0 k)):E3 P w K mg base 7 yC (sW yC mA mB mS [("i",cx)] pm) ["finding"] (JR cx (.int ((i:Nat):Int)) (W4 k i)):=
 aeT ali (λc I u=>rfl) λf c A outer s H y Q hr h=>⟨_,bx j (ae ã ó),⟨_,rfl,_,rfl,h⟩⟩
def aa.put{H:Hp}{a x:Addr}{xs:au}{o:HO}(h:ä a xs)(j:∀u,H x=some u->∃ps,u=.gR ps):aa K (Áj o) a xs:=by
 rcases h with (h|⟨o,h⟩)|h
 .exact .inl (.inl (by rw[aq (λz=>by rw[z] at h;let(ps,e):=j _ h;cases e)];exact h))
 .exact .inl (.inr ⟨o,by rw[aq (λz=>by rw[z] at h;let(ps,e):=j _ h;cases e)];exact h⟩)
 .exact .inr h
inductive N5(K:FR)(T:Addr)(vs:au)(H:Hp)(Q:VK)(E':XK):Prop
 |mk (i:Nat) (at_ ab ap:Addr) (t b p:LI) (_:vs=[.int ((i:Nat):Int),.ref at_,.ref ab,.ref ap]) (_:H T=some (.gR #[])) (_:ä at_ (iv t)) (_:ä ab (iv b)) (_:ä ap (iv p)) (_:t.length<=66000) (_:b.length<=66000) (_:p.length<=66000) (_:(∀x,gn t=some x->G0 x.2)) (_:(∀m,g7 p=.ok m->G1 m)) (_:(∀z,Ű p=some z->∀H' r,H' r=some (.lst [.int z])->Q Án H')) (_:(Ű p=none->∀x y m,gn t=some x->jA x.1 x.2 b=some y->g7 p=.ok m->((∀z∈r9 x.2 (y.2.map (·.1)) m,z.1.length<=100/\∀n∈z.1,n<y.2.length)/\∀e∈y.2,e.2.length<=64)/\∀H' r,H' r=some (.lst (iv (yD ((r9 x.2 (y.2.map (·.1)) m).map (·.1)) (y.2.map (·.2)) i)))->Q Án H'))
def alk:bO ["i","t","b","p"] ["i","t","b","p"] (aZ qv):=cu
def alm{f:Addr}{fd:FD}{T c:Addr}(F:bu K "says" "says" qv f fd)(hc:fd.code=.ref c)(hK:BX K c T)(hb:x5 mg base)(dA:∀(cx:Addr)(i:Nat),Ç 8 "answered" ["t","b","p","told"] (WS K k yC (sW yC mA mB mS [("i",cx)] ((mg "__name__").getD .none)) (JR cx (.int ((i:Nat):Int)) (W4 k i)))):Ì aE 9 f fd ["i","t","b","p"] (N5 K T):=by
 apply F.okt alk Á (λaG A outer s H vs Q E J hr h=>?_);let(i,at_,ab,ap,t,b,p,rfl,O,h1,h2,h3,l1,l2,l3,g1,g2,k1,k2):=h;let J:=J.symm.trans hc;let(fA,fdA,GA,gA,kA,bA):=dA Ï i;apply⟨_,aeW (i:=0) (x:="i") (c:=s.heap.objs.size+1) GA hr Á gA kA bA Á Á Á Á Á (ae ã (ae ç (ae ø (ae (aeI (q:=yC) (cl:=[("i",s.heap.objs.size+1)]) hK hb J Á Á) ag)))),?_⟩;apply(_,Á,_,Á,_,Á,_,Á,O,λlf j iM jk Y Z n3 o u ho ru G=>?_);let nT:∀u,H T=some u->∃ps,u=.gR ps:=λu e=>by
  symm
 let nlc:j≠T:=λz=>by rw[z,O] at Z;cases Z
 let nlf:lf≠T:=λz=>by rw[z,O] at Y;cases Y
 let nf:lf≠s.heap.objs.size+1:=λz=>by rw[<-z,ao] at G;cases G
 let nc:j≠s.heap.objs.size+1:=λz=>by rw[<-z,aq n3,ao] at G;cases G
 let seq:∀{a:Addr}{xs:au},ä a xs->aa K (upd (upd (upd (Ϡ (.gR jk)) j (zG j yC)) lf (zF lf (sW yC mA mB mS [("i",s.heap.objs.size+1)] ((mg "__name__").getD .none) j iM))) Ï (nW Ï o)) a xs:=λh=>
  aa.put (aa.put (aa.put (aa.put h nT) (λu e=>by rw[aq nlc,Z] at e;cases e)) (λu e=>by rw[aq n3.symm,aq nlf,Y] at e;cases e)) (λu e=>by let e:=G.symm.trans e;cases e)
 apply(at_,ab,ap,lf,t,b,p,Á,⟨j,iM,(aq nf).trans ao,(aq nc).trans ((aq n3).trans ao)⟩,seq h1,seq h2,seq h3,l1,l2,l3,g1,g2,k1,λer x y m ex ey em H' fd s' ok W=>?_);let((q1,q3),q2):=k2 er x y m ex ey em;let js:H' Ï=some (nW Ï o):=s' _ _ ao;let nd:∀{a:Addr}{u:HO},H' a=some u->(∀φ,u≠ .ext φ)->del H' Ï a=some u:=λe n=>by
  rw[wg (λz=>by rw[z,js] at e;cases e;exact n _ Á)];exact e
 let I:fd.b.es.map aO.m=y.2:=by rw[<-W.b];rfl
 let M:fd.b.es.map aO.gH=y.2.map (·.2):=by rw[<-I,cV];rfl
 apply(o,u,js,ho,ru,Á,fd,i,Á,nd ok.a Ä,⟨nd ok.b.a Ä,nd ok.b.n Ä,nd ok.b.e.a Ä,λe S z U=>nd (ok.b.e.l e S z U) (by simp only[kC,a0,lO,lQ] at U;rcases U with rfl|rfl|rfl <;> simp),ok.b.e.dg⟩,nd ok.rs.1 Ä,λr hr=>⟨?_,nd (ok.rs.2 r hr (r.a,_) (by simp[Au])) Ä,nd (ok.rs.2 r hr (r.nums.a,_) (by simp[Au,lsN])) Ä⟩,λe S=>q3 e.m (by rw[<-I];exact P2 S),λH2 r e n=>q2 _ r ?_)
 .let:=q1 r.m (by rw[<-W.r];exact P2 hr);rw[<-I,az] at this;exact this
 .rw[aq (λz=>by rw[z,n] at e;cases e),e,<-W.r,cV,M];rfl
end
end HD
end
section
namespace HD
open PySem
def bitAnd_nn(a b:Nat):Builtin.bitAnd (a:Int) (b:Int)=((a&&& b:Nat):Int):=by
 rfl
def yE(g b:Nat):yr g b=g.testBit b:=by
 delta yr;let e:((g:Nat):Int)/2^b=((g/2^b:Nat):Int):=by
  rfl
 rw[e,show(1:Int)=((1:Nat):Int) from rfl,bitAnd_nn,Nat.testBit_eq_decide_div_mod_eq,Nat.and_one_is_mod];grind
def Dl(g b:Nat):g9 g b=false↔ ∀i,b.testBit i=true->g.testBit i=true:=by
 let j:g9 g b=decide (b&&& g≠b):=by
  delta g9 Builtin.bitAnd Builtin.bitNot;rw[eP (Ib b),f7 (by omega:¬(0:Int)<= -((g:Nat):Int)-1)];dsimp only;rw[show-(-((g:Nat):Int)-1)-1=((g:Nat):Int) by omega,DH,DH];let I:b&&& g<=b:=Nat.and_le_left;by_cases h:b&&& g=b
  .rw[h];simp
  .rw[eP h];let:((b:Nat):Int)-((b&&& g:Nat):Int)≠0:=by omega
   simpa using this
 rw[j,A2,Decidable.not_not];apply(λh i hi=>?_,λh=>aqB λi=>?_)
 .rw[<-h,DX,iU] at hi;exact hi.2
 .rw[DX];cases hb:b.testBit i with
  |false=>rfl
  |true=>rw[h i hb];rfl
def G7:g9 g b=true↔ ∃i,b.testBit i=true/\g.testBit i=false:=by
 constructor
 .intro h;apply P9 λm=>?_;let:g9 g b=false:=(Dl g b).mpr λi hi=>by
   symm
  symm
 .rintro⟨i,j,h2⟩;cases e:g9 g b with
  |true=>rfl
  |false=>
   rw[(Dl g b).mp e i j] at h2;symm
theorem alq(g b:Nat):vh g (2^b)=g.testBit b:=by
 delta vh;rw[bitAnd_nn];cases e:g.testBit b with
 |true=>
  let h:g&&& 2^b≠0:=λz=>by
   let j:(g&&& 2^b).testBit b=true:=by rw[DX,e,aqC];rfl
   symm
  symm
 |false=>
  let h:g&&& 2^b=0:=aqB λi=>by
   grind
  symm
def alr(g:Nat):vh g 0=false:=by
 delta vh;rw[bitAnd_nn,Nat.and_zero];rfl
abbrev oZ(g b:Nat):Int:=kq (g9 g b)
def uc(g b:Nat):oZ g b=0\/oZ g b=1:=by
 delta oZ kq;split <;> simp
theorem G8(hs:∀i,g.testBit i=true->h.testBit i=true):oZ h b<=oZ g b:=by
 delta oZ kq;cases e:g9 h b with
 |false=>
  let:=uc g b;delta oZ kq at this;rw[ah eC];omega
 |true=>
  let(i,j,h2):=G7.mp e;let:g9 g b=true:=G7.mpr ⟨i,j,by
   cases e2:g.testBit i with
   |false=>rfl
   |true=>rw[hs i e2] at h2;cases h2⟩
  rw[this];exact Ig _
def G9(a c:Nat):∀i,a.testBit i=true->(a|||c).testBit i=true:=λi h=>by rw[Nat.testBit_or,h];rfl
def W5(a c:Nat):∀i,c.testBit i=true->(a|||c).testBit i=true:=λi h=>by rw[Nat.testBit_or,h,YC]
def W6(a c:Nat):∀i,(a&&& c).testBit i=true->a.testBit i=true:=λi h=>by rw[DX,iU] at h;exact h.1
def als(a c:Nat):∀i,(a&&& c).testBit i=true->c.testBit i=true:=λi h=>by rw[DX,iU] at h;exact h.2
def alu(a c b:Nat):oZ (a|||c) b+oZ (a&&& c) b<=oZ a b+oZ c b:=by
 let M:=G8 (b:=b) (G9 a c);let h2:=G8 (b:=b) (W5 a c);let O:=uc (a|||c) b;let S:=uc (a&&& c) b;let G:=uc a b;let I:=uc c b;rcases G with j|j
 .rcases I with m|m
  .let F:g9 a b=false:=by
    cases e:g9 a b with
    |false=>rfl
    |true=>delta oZ kq at j;rw[e] at j;cases j
   let z:g9 c b=false:=by
    cases e:g9 c b with
    |false=>rfl
    |true=>delta oZ kq at m;rw[e] at m;cases m
   let J:g9 (a&&& c) b=false:=(Dl _ _).mpr λi hi=>by
    rw[DX,(Dl _ _).mp F i hi,(Dl _ _).mp z i hi];rfl
   grind
  .omega
 .omega
def ji(l:cj)(s:Nat):Nat:=(l.filter λp=>decide (p.1=s)).length
def jS(l:cj)(s g:Nat):Int:=((l.filter λp=>decide (p.1=s)).map λp=>oZ g p.2).sum
def bo(lf:Nat->Int)(l:cj)(s g:Nat):Int:=(ji l s:Int)-lf s-jS l s g
def jj(n:Nat)(sm:Nat->Nat)(lf:Nat->Int)(g:Nat):Int:=((List.range n).map λb=>if g.testBit b=true then lf ϳ else 0).sum
def i3(lf:Nat->Int)(l:cj)(g:Nat)(D:LN):Int:=(D.map λs=>cE (ĕ g)).sum
def du(n:Nat)(sm:Nat->Nat)(lf:Nat->Int)(l:cj)(D:LN)(g:Nat):Int:=jj n sm lf g-i3 lf l g D
theorem alv(hs:∀i,g.testBit i=true->h.testBit i=true)(l:cj)(s:Nat):jS l s h<=jS l s g:=by
 delta jS;generalize l.filter (λp=>decide (p.1=s))=L;induction L with
 |nil=>simp
 |cons p L I=>
  let:=G8 (b:=p.2) hs;grind
theorem alw(a c:Nat)(l:cj)(s:Nat):jS l s (a|||c)+jS l s (a&&& c)<=jS l s a+jS l s c:=by
 delta jS;generalize l.filter (λp=>decide (p.1=s))=L;induction L with
 |nil=>simp
 |cons p L I=>
  let:=alu a c p.2;grind
theorem Dm(l:cj)(s g:Nat):0<=jS l s g/\jS l s g<=ji l s:=by
 delta jS ji;generalize l.filter (λp=>decide (p.1=s))=L;induction L with
 |nil=>exact(Ig _,Ig _)
 |cons p L I=>
  let:=uc g p.2;simp only[aX,gX,dc];omega
theorem alx(n:Nat)(sm:Nat->Nat)(lf:Nat->Int)(a c:Nat):jj n sm lf (a|||c)+jj n sm lf (a&&& c)=jj n sm lf a+jj n sm lf c:=by
 delta jj;generalize List.range n=L;induction L with
 |nil=>rfl
 |cons b L I=>
  let h:(if (a|||c).testBit b=true then lf ϳ else 0)+(if (a&&& c).testBit b=true then lf ϳ else 0)=(if a.testBit b=true then lf ϳ else 0)+(if c.testBit b=true then lf ϳ else 0):=by
   grind
  grind
def aly(h:x+y<=u+i)(j:x<=u)(h2:y<=u)(m:i<=x)(z:i<=y):cE x+cE y<=cE u+cE i:=by
 delta cE;omega
def AC(hs:∀i,g.testBit i=true->h.testBit i=true)(lf:Nat->Int)(l:cj)(s:Nat):ĕ g<=bo lf l s h:=by
 let:=alv hs l s;delta bo;omega
def W7(a c:Nat)(lf:Nat->Int)(l:cj)(s:Nat):ĕ a+bo lf l s c<=bo lf l s (a|||c)+bo lf l s (a&&& c):=by
 let:=alw a c l s;delta bo;omega
def N6(a c:Nat)(lf:Nat->Int)(l:cj)(s:Nat):cE (ĕ a)+cE (ĕ c)<=cE (ĕ (a|||c))+cE (ĕ (a&&& c)):=
 aly (W7 a c lf l s) (AC (G9 a c) lf l s) (AC (W5 a c) lf l s) (AC (W6 a c) lf l s) (AC (als a c) lf l s)
theorem alz(a c:Nat)(lf:Nat->Int)(l:cj):∀D:LN,i3 lf l a D+i3 lf l c D<=i3 lf l (a|||c) D+i3 lf l (a&&& c) D:=by
 intro D;induction D with
 |nil=>exact Ig _
 |cons s D I=>
  let j:=I;let h2:=N6 a c lf l s;delta i3 at j⊢;simp only[aX,gX];omega
theorem alA(a c:Nat)(lf:Nat->Int)(l:cj){s:Nat}{D:LN}:s∈D->(i3 lf l a D+i3 lf l c D)+(cE (ĕ (a|||c))+cE (ĕ (a&&& c))-cE (ĕ a)-cE (ĕ c))<=i3 lf l (a|||c) D+i3 lf l (a&&& c) D:=by
 induction D with
 |nil=>exact @λh=>absurd h Ä
 |cons x D I=>
  intro h;rcases a0.mp h with rfl|h
  .let j:=alz a c lf l D;delta i3 at j⊢;simp only[aX,gX];omega
  .let j:=I h;let h2:=N6 a c lf l x;delta i3 at j⊢;simp only[aX,gX];omega
def alB{h b c:Nat}(j:h.testBit b=false)(h2:c.testBit b=true):h<h|||c:=by
 let I:h<=h|||c:=Nat.left_le_or;grind
def vq(lf:Nat->Int)(l:cj)(s b g:Nat):bo lf ((s,b)::l) s g=bo lf l s g+1-oZ g b:=by
 delta bo ji jS;grind
def AD(lf:Nat->Int)(l:cj)(b g:Nat)(h:s≠s'):bo lf ((s,b)::l) s' g=bo lf l s' g:=by
 delta bo ji jS;symm
def alC(n:Nat)(sm:Nat->Nat)(lf:Nat->Int)(l:cj){D:LN}{s:Nat}(hs:s∈D)(a c:Nat):du n sm lf l D (a|||c)+du n sm lf l D (a&&& c)+(cE (ĕ (a|||c))+cE (ĕ (a&&& c))-cE (ĕ a)-cE (ĕ c))<=du n sm lf l D a+du n sm lf l D c:=by
 let j:=alx n sm lf a c;let h2:=alA a c lf l hs;delta du;omega
def N7(n:Nat)(sm:Nat->Nat)(lf:Nat->Int)(l:cj)(D:LN)(s B:Nat):Prop:=∀g,g<2^n->0<=du n sm lf l D g+cE (ĕ g)-cE (ĕ g+oZ g B)
def W8(n:Nat)(sm:Nat->Nat)(lf:Nat->Int)(l:cj)(D:LN)(s B b:Nat):Prop:=∀g,g<2^n->0<=du n sm lf l D g+cE (ĕ g)-cE (ĕ g-1+oZ g B)-(if g.testBit b=true then 1 else 0)
def alD(n:Nat)(sm:Nat->Nat)(lf:Nat->Int)(r:cj){D:LN}{s B:Nat}(hs:s∈D)(h:∀g,g<2^n->0<=du n sm lf Þ D g):
  N7 n sm lf Þ D s B\/∃b,B.testBit b=true/\W8 n sm lf Þ D s B b:=by
 apply P9 λhn=>?_;let Z:=λz=>hn (Or.inl z);let ml:=λb hb z=>hn (Or.inr ⟨b,hb,z⟩);let gW:∀(m g:Nat),2^n-g<=m->g<2^n->oZ g B=1->du n sm lf Þ D g=0->0<=bo lf Þ s g->False:=by
  intro m;induction m with
  |zero=>omega
  |succ m ih=>
   intro g hm j U h0 ar7;let W:g9 g B=true:=by
    cases e:g9 g B with
    |true=>rfl
    |false=>delta oZ kq at U;rw[e] at U;cases U
   let(b,S,Gx):=G7.mp W;let oN:=ml b S;delta W8 at oN;let ⟨c,hc⟩:=aqD.mp oN;let J:=P9 λz=>hc λy=>absurd y z;let hc:¬0<=du n sm lf Þ D c+cE (bo lf Þ s c)-cE (bo lf Þ s c-1+oZ c B)-(if c.testBit b=true then 1 else 0):=λz=>hc λ_=>z;let B0:=h c J;let hco:=uc c B;let W9:c.testBit b=true:=by
    cases e:c.testBit b with
    |true=>rfl
    |false=>
     rw[e,ah eC] at hc;exfalso;apply hc;delta cE;omega
   rw[W9,af rfl] at hc;let O:=Nat.or_lt_two_pow j J;let M:=Nat.and_lt_two_pow g J;let hU:=h _ O;let hI:=h _ M;let F:=alC n sm lf Þ hs g c;let I:=N6 g c lf Þ s;let hgU:=AC (G9 g c) lf Þ s;let G:=uc (g|||c) B;let hIo:=G8 (b:=B) (W6 g c);let asb:=uc (g&&& c) B;let uY:=AC (G9 g c) lf r s;let sY:=W7 g c lf r s;let e1:=vq lf r s B g;let e2:=vq lf r s B c;let e3:=vq lf r s B (g|||c);let e4:=vq lf r s B (g&&& c);generalize hS0:du n sm lf Þ D c=S0 at B0 hc F;generalize du n sm lf Þ D (g&&& c)=SI at hI F;rw[h0] at F;let Xa:S0=0/\(oZ c B=1\/bo lf Þ s c<=0):=by
    delta cE at hc;omega
   let(Xa,jo):=Xa;rcases G with G|G
   .exfalso;delta cE at F I;omega
   .let hSU:du n sm lf Þ D (g|||c)=0:=by omega
    let:=alB Gx W9;grind
 delta N7 at Z;let ⟨g,j⟩:=aqD.mp Z;let oj:=P9 λz=>j λy=>absurd y z;let j:¬0<=du n sm lf Þ D g+cE Èt-cE (bo lf Þ s g+oZ g B):=λz=>j λ_=>z;let hgs:=h g oj;let sZ:=uc g B;let Y:oZ g B=1/\du n sm lf Þ D g=0/\0<=bo lf Þ s g:=by
  delta cE at j;omega
 exact gW _ g (bU _) oj Y.1 Y.2.1 Y.2.2
theorem alJ(f:Nat->Int){a b:LN}(h:a.Perm b):(a.map f).sum=(b.map f).sum:=by
 induction h with
 |nil=>rfl
 |cons x _ I=>rw[aX,aX,gX,gX,I]
 |swap x y l=>
  simp only[aX,gX];omega
 |trans _ _ j h2=>exact j.trans h2
theorem N9(f:Nat->Int){D:LN}:(∀s∈D,f s=0)->(D.map f).sum=0:=by
 induction D with
 |nil=>exact @λ_=>Á
 |cons x D I=>
  intro h;rw[aX,gX,h x Ä,I λs hs=>h s (aP _ hs)];rfl
theorem alK(f:Nat->Int):∀{A D:LN},A.Nodup->D.Nodup->(∀s∈A,s∉D->f s=0)->(∀s∈D,s∉A->f s=0)->(A.map f).sum=(D.map f).sum:=by
 intro A;induction A with
 |nil=>exact @λD _ _ _ h=>(N9 f λs hs=>h s hs Ä).symm
 |cons x A J=>
  intro D m F I h2;let(O,m):=kO.mp m;by_cases G:x∈D
  .let M:=List.perm_cons_erase G;rw[alJ f M,aX,aX,gX,gX];congr 1;apply J m (F.erase x) (λs hs j=>?_) (λs hs j=>?_)
   .exact I s (aP _ hs) λz=>j ((F.mem_erase_iff).mpr ⟨λe=>O (e▸ hs),z⟩)
   .let(Z,S):=(F.mem_erase_iff).mp hs;exact h2 s S λz=>(a0.mp z).elim Z j
  .rw[aX,gX,I x Ä G,Za];exact J m F (λs hs=>I s (aP _ hs)) λs hs j=>h2 s hs λz=>(a0.mp z).elim (λe=>G (e▸ hs)) j
theorem Xb:∀(n:Nat)(l:LN),l.length<=n->l.eraseDups.Nodup
 |0,l,h=>by
  let:l=[]:=PY.mp Å;rw[this];exact A3
 |n+1,[],_=>A3
 |n+1,a::l,h=>by
  rw[List.eraseDups_cons];apply kO.mpr ⟨λz=>?_,Xb n _ ?_⟩
  .let:=aqE.mp z;simp at this
  .let:=HY (λb=>!b==a) l;simp only[dc] at h;omega
def vt(q:Nat->Bool)(n:Nat):Nat:=(((List.range n).filter q).map (2^ ·)).sum
def Xc(q:Nat->Bool)(n:Nat):vt q (n+1)=(if q n=true then 2^n else 0)+vt q n:=by
 delta vt;rw[HZ,DT,bZ,List.sum_append];grind
theorem Oa(q:Nat->Bool):∀n,vt q n<2^n:=by
 intro n;induction n with
 |zero=>
  simp[vt]
 |succ n I=>
  rw[Xc];let:=I;let e:2^(n+1)=2^n+2^n:=by rw[P3];omega
  split <;> omega
theorem Xd(q:Nat->Bool):∀n b,(vt q n).testBit b=(decide (b<n)&&q b):=by
 intro n;induction n with
 |zero=>
  intro b;simp[vt]
 |succ n I=>
  intro b;rw[Xc];let z:=Oa q n;let I:=I b;by_cases h:q n=true
  .rw[af h];by_cases j:b<n
   .rw[aqF j,I,eP j,eP Å]
   .by_cases m:b=n
    .subst m;rw[aqG,DY z,h,eP Å];rfl
    .rw[f7 Å,lI];apply DY ?_;let F:2^(n+1)=2^n+2^n:=by rw[P3];omega
     let G:2^(n+1)<=2^b:=Ic Ù Å;omega
  .rw[ah h,xq,I];by_cases j:b<n
   .rw[eP j,eP Å]
   .by_cases m:b=n
    .subst m;let:q b=false:=by simpa using h
     rw[this,yQ,yQ]
    .rw[f7 j,f7 Å]
theorem alL(q:Nat->Bool):∀l:LN,l.filter q∈Flags.choices l:=by
 intro l;induction l with
 |nil=>
  simp[Flags.choices]
 |cons x l I=>
  let I:=I;delta Flags.choices;by_cases h:q x=true
  .rw[A4 h];exact uu _ (cb.mpr ⟨_,I,Á⟩)
  .rw[A5 h];exact AW _ I
def dm(sames:LN)(p:Nat×Nat):Flags.Spot:=⟨p.1,(pA sames.length p.2).map λb=>sames.getD b 0⟩
def a8(left:LN):Nat->Int:=λk=>((left.getD k 0:Nat):Int)
def Xe(sames left:LN)(l:cj)(s:Nat):Flags.lacks left Æt s=ji l s-left.getD s 0:=by
 delta Flags.lacks ji;rw[yS,az];congr 2
def alM(sames:LN)(l:cj)(s g:Nat)(y:LN)(S:∀b,b<sames.length->g.testBit b=!y.contains ń)(F:∀p∈l,p.2<2^sames.length):
  (((l.map ô).filter λp=>p.sign==s&&p.may.any λk=>y.contains k).length:Int)=jS l s g:=by
 rw[yS,az];delta jS;induction l with
 |nil=>rfl
 |cons p l I=>
  let I:=I λx M=>F x (aP _ M);let J:=F p Ä;let O:(dm sames p).may.any (λk=>y.contains k)=g9 g p.2:=by
   delta dm;rw[PB,pO,vD,G7];delta pA;constructor
   .rintro⟨b,m,h⟩;let(j,h2):=kJ.mp m;simp at j;apply(b,by rw[<-yE];exact h2,?_);symm
   .rintro⟨b,j,h2⟩;let m:b<sames.length:=by
     apply Y0 λz=>?_;let:p.2.testBit b=false:=DY (iB J (Ic Ù z));symm
    apply(b,kJ.mpr ⟨by simp_all,by rw[yE];exact j⟩,?_);symm
  by_cases hs:p.1=s
  .rw[A4 (l:=l) (p:=λp=>decide (p.1=s)) É,aX,gX,<-I];let G:((dm sames p).sign==s)=true:=by simpa [dm] using hs
   cases eb:g9 g p.2 with
   |true=>
    rw[A4 É,dc];delta oZ kq;grind
   |false=>
    rw[A5 É];delta oZ kq;symm
  .rw[A5 (l:=l) (p:=λp=>decide (p.1=s)) É,<-I];let G:((dm sames p).sign==s)=false:=by simpa [dm] using hs
   symm
theorem sum_nat(f:Nat->Nat):∀l:LN,(((l.map f).sum:Nat):Int)=(l.map λs=>((f s:Nat):Int)).sum:=by
 intro l;induction l with
 |nil=>exact Á
 |cons x l I=>
  rw[aX,aX,gX,gX,Int.natCast_add,I]
theorem sum_add(f g h:Nat->Int){l:LN}:(∀s∈l,f s=g s+h s)->(l.map f).sum=(l.map g).sum+(l.map h).sum:=by
 induction l with
 |nil=>exact @λ_=>Á
 |cons x l I=>
  intro e;rw[aX,aX,aX,gX,gX,gX,e x Ä,I λs hs=>e s (aP _ hs)];omega
def alN(sames left:LN)(g:Nat)(y:LN)(G:∀b,b<sames.length->g.testBit b=!y.contains ń):
  ((((sames.filter λk=>!y.contains k).map λk=>left.getD k 0).sum:Nat):Int)=jj sames.length Ãk å g:=by
 let gen:∀(L:LN)(o:Nat),(∀b,b<L.length->g.testBit (o+b)=!y.contains Çg)->((((L.filter λk=>!y.contains k).map λk=>left.getD k 0).sum:Nat):Int)=((List.range L.length).map λb=>if g.testBit (o+b)=true then a8 left Çg else 0).sum:=by
  intro L;induction L with
  |nil=>intro o _;rfl
  |cons x L I=>
   intro o h;let m:=h 0 Ä;rw[YZ] at m;let m:g.testBit o=!y.contains x:=m;let I:=I (o+1) λb z=>by
    let:=h (b+1) (À z);rw[show o+1+b=o+(b+1) by omega,this];rfl
   rw[dc,DO,aX,gX,cV];let F:(List.range L.length).map ((λb=>if g.testBit (o+b)=true then a8 left ((x::L).getD b 0) else 0)∘Nat.succ)=(List.range L.length).map λb=>if g.testBit (o+1+b)=true then a8 left Çg else 0:=by
    apply kY;intro b _;show(if g.testBit (o+(b+1))=true then a8 left Çg else 0)=_;rw[show o+(b+1)=o+1+b by omega]
   rw[F,<-I,YZ];show _=(if g.testBit o=true then a8 left x else 0)+_;rw[m];by_cases j:y.contains x=true
   .rw[j,A5 (by rw[j];decide)];simp
   .let j:y.contains x=false:=by simpa using j
    rw[j,A4 (by rw[j];rfl),aX,gX,Int.natCast_add];rfl
 let:=gen sames 0 λb z=>by rw[xq];exact G b z
 simp only[xq] at this;exact this
def yF(lf:Nat->Int)(l:cj)(D:LN):Prop:=∀s,s∉D->(ji l s:Int)<=lf s
def Ob(h:s∉l.map (·.1)):ji l s=0:=by
 delta ji;rw[PY,aqu];grind
def Xf(sames left:LN)(l:cj)(y:LN)(g:Nat)(I:∀b,b<sames.length->g.testBit b=!y.contains ń)(S:∀p∈l,p.2<2^sames.length){D:LN}(O:D.Nodup)(J:yF å l D):
  ((((l.map ô).map λp=>p.sign).eraseDups.map (Flags.lacks left Æt)).sum<=((sames.filter λk=>!y.contains k).map λk=>left.getD k 0).sum+(((l.map ô).map λp=>p.sign).eraseDups.map λs=>min ϸ (((l.map ô).filter λp=>p.sign==s&&p.may.any λk=>y.contains k).length)).sum)↔
   0<=du sames.length Ãk å l D g:=by
 let j:(l.map ô).map (λp=>p.sign)=l.map (·.1):=by
  rw[cV];rfl
 rw[j];let W:=alN sames left g y I;let h2:=sum_nat (Flags.lacks left Æt) (l.map (·.1)).eraseDups;let Y:=sum_nat (λs=>min ϸ (((l.map ô).filter λp=>p.sign==s&&p.may.any λk=>y.contains k).length)) (l.map (·.1)).eraseDups;let Z:=sum_add (λs=>((Flags.lacks left Æt s:Nat):Int)) (λs=>((min ϸ (((l.map ô).filter λp=>p.sign==s&&p.may.any λk=>y.contains k).length):Nat):Int)) (λs=>cE (bo å l s g)) (l:=(l.map (·.1)).eraseDups) λs _=>by
  let F:=alM sames l s g y I S;let M:=Xe sames left l s;let G:=Dm l s g;generalize ((l.map ô).filter λp=>p.sign==s&&p.may.any λk=>y.contains k).length=o at F;rw[M];delta bo cE a8;omega
 let h5:=alK (λs=>cE (bo å l s g)) (A:=(l.map (·.1)).eraseDups) (D:=D) (Xb _ _ (bU _)) O (λs _ m=>?_) (λs _ m=>?_)
 .delta du i3;omega
 .let F:=J s m;let G:=Dm l s g;delta bo cE;omega
 .let U:=Ob λz=>m (aqE.mpr z);let G:=Dm l s g;delta bo cE a8;omega
def Xg{L:Flags.Locker}{sames:LN}(hs:L.sameKinds=sames)(G:sames.Nodup)(left:LN)(l:cj)(z:∀p∈l,p.2<2^sames.length){D:LN}(m:D.Nodup)(j:yF å l D):
  L.enough left Æt=true↔ ∀g,g<2^sames.length->0<=du sames.length Ãk å l D g:=by
 delta Flags.Locker.enough;rw[hs,kU];constructor
 .intro h g I;let F:=h _ (alL (λk=>!g.testBit (sames.idxOf k)) sames);rw[lL] at F;refine(Xf sames left l _ g đ z m j).mp F;symm
 .intro h y _;rw[lL];refine(Xf sames left l y (vt (λb=>!y.contains ń) sames.length) đ z m j).mpr (h _ (Oa _ _));rw[Xd,eP hb,ma]
end HD
end
section
namespace HD
open PySem L2
def fC(n:Nat)(sm:Nat->Nat)(lf:Nat->Int)(l:cj)(D:LN):ik:=(D.map λs=>(s,(List.range (2^n)).map (bo lf l s)),(List.range (2^n)).map (du n sm lf l D))
def dec(lf:Nat->Int)(k:Nat):Nat->Int:=λj=>if j=k then lf j-1 else lf j
def Xh(f:Nat->Int)(h:g<G):((List.range G).map f).getD g 0=f g:=by
 symm
def pI{G:Nat}{f h:Nat->Int}(e:∀g,g<G->f g=h g):(List.range G).map f=(List.range G).map h:=by
 symm
def Do(f:Nat->Int)(G:Nat):ox ((List.range G).map f)=true↔ ∀g,g<G->0<=f g:=by
 delta ox;simp
theorem EW(f:Nat->β)(s:Nat):∀D:LN,b7 (D.map λx=>(x,f x)) s=if s∈D then some (f s) else none:=by
 intro D;induction D with
 |nil=>exact Á
 |cons x D I=>
  let I:=I;delta b7 at I⊢;rw[aX];by_cases h:x=s
  .subst h;rw[aqH Ä,af Ä];rfl
  .rw[Ze (À h),I];by_cases h2:s∈D
   .rw[af h2,af (aP _ h2)]
   .rw[ah h2,ah (λz=>(a0.mp z).elim (λe=>h e.symm) h2)]
def Xi{β:Type}(f:Nat->β){s:Nat}(v:β){D:LN}(h:s∈D):eF (D.map λx=>(x,f x)) s v=D.map λx=>(x,if x=s then v else f x):=by
 delta eF;let j:((D.map λx=>(x,f x)).any λp=>decide (p.1=s))=true:=by
  symm
 rw[af j,cV];apply kY;grind
theorem Hd(f h:Nat->Int){s:Nat}{D:LN}:D.Nodup->s∈D->(∀x∈D,x≠s->h x=f x)->(D.map h).sum=(D.map f).sum-f s+h s:=by
 induction D with
 |nil=>exact @λ_ hs _=>absurd hs Ä
 |cons x D I=>
  intro nd hs e;let(F,nd):=kO.mp nd;rw[aX,aX,gX,gX];by_cases m:x=s
  .subst m;let:(D.map h).sum=(D.map f).sum:=by
    congr 1;apply kY;intro y j;exact e y (aP _ j) λz=>F (z▸ j)
   rw[this];omega
  .let Y:=(a0.mp hs).elim (λz=>absurd z.symm m) id;rw[I nd Y λy j=>e y (aP _ j),e x Ä m];omega
def Xj{n:Nat}{sm:Nat->Nat}{lf:Nat->Int}{k:Nat}(h:∀b,b<n->sm b≠k)(g:Nat):jj n sm (dec lf k) g=jj n sm lf g:=by
 delta jj;congr 1;apply kY;intro b j;delta dec;symm
def alP{sm:Nat->Nat}{lf:Nat->Int}(m:b<n)(hi:∀a,a<n->sm a=sm b->a=b)(g:Nat):jj n sm Åg g=jj n sm lf g-(if g.testBit b=true then 1 else 0):=by
 delta jj;let:=Hd (λa=>if g.testBit a=true then lf (sm a) else 0) (λa=>if g.testBit a=true then dec lf ϳ (sm a) else 0) (s:=b) (D:=List.range n) Zf É λx z j=>by
  delta dec;grind
 rw[this];let e:dec lf ϳ ϳ=lf ϳ-1:=by delta dec;rw[af rfl]
 grind
def Oc(lf:Nat->Int)(l:cj)(s g:Nat):bo Âz l s g=bo lf l s g+1:=by
 delta bo dec;rw[af rfl];omega
def xf(lf:Nat->Int)(l:cj){s k:Nat}(h:s≠k)(g:Nat):bo (dec lf k) l s g=bo lf l s g:=by
 delta bo dec;rw[ah h]
section
variable{n:Nat}{sm:Nat->Nat}{lf:Nat->Int}{r:cj}{D:LN}{s B:Nat}
def Xk(j:s∈D)(nd:D.Nodup)(G:∀b,b<n->sm b≠s)(g:Nat):du n sm Âz r D g=du n sm lf Þ D g+cE Èt-cE (bo lf Þ s g+oZ g B):=by
 delta du;rw[Xj G];let:=Hd (λx=>cE (bo lf Þ x g)) (λx=>cE (bo Âz r x g)) nd j λx _ aU=>by
  rw[xf _ _ aU,AD _ _ _ _ År]
 delta i3;rw[this,Oc,vq];grind
def Xl{b:Nat}(j:b<n)(hi:∀a,a<n->sm a=sm b->a=b)(m:s∈D)(nd:D.Nodup)(Y:sm b∉D)(g:Nat):du n sm Åg r D g=du n sm lf Þ D g+cE Èt-cE (bo lf Þ s g-1+oZ g B)-(if g.testBit b=true then 1 else 0):=by
 delta du;rw[alP j hi];let:=Hd (λx=>cE (bo lf Þ x g)) (λx=>cE (bo Åg r x g)) nd m λx F aU=>by
  rw[xf _ _ (λz=>Y É),AD _ _ _ _ År]
 delta i3;rw[this,xf _ _ (λz=>Y É),vq];grind
def Xm(m:s∉D)(G:∀b,b<n->sm b≠s)(g:Nat):du n sm Âz r D g=du n sm lf Þ D g:=by
 delta du i3;rw[Xj G];congr 2;apply kY;intro x j;let aU:x≠s:=λz=>m (z▸ j);rw[xf _ _ aU,AD _ _ _ _ År]
def alQ(j:s∉D)(G:∀b,b<n->sm b≠s):fC n sm lf Þ D=fC n sm Âz r D:=by
 delta fC;congr 1
 .apply kY;intro x m;let aU:x≠s:=λz=>j (z▸ m);congr 1;exact pI λg _=>by rw[xf _ _ aU,AD _ _ _ _ År]
 .exact pI λg _=>(Xm j G g).symm
def Xn:tU 0=0:=rfl
def Xo(b:Nat):tU (2^b)= -1:=by
 delta tU;let:0<2^b:=Nat.two_pow_pos b;grind
def Od(f:Nat->Int)(G B same:Nat):i0 ((List.range G).map f) B same=(List.range G).map λg=>f g+tU same+oZ g B:=by
 delta i0;symm
def Xp(f h:Nat->Int)(G B same:Nat):jz ((List.range G).map f) ((List.range G).map h) B same=(List.range G).map λg=>h g+cE (f g)-cE (f g+tU same+oZ g B)-kq (vh g same):=by
 delta jz;rw[az,ib,Od];symm
def Xq(j:s∈D)(nd:D.Nodup)(G:∀b,b<n->sm b≠s):jz ((List.range (2^n)).map Çb) (fC n sm lf Þ D).2 B 0=(List.range (2^n)).map (du n sm Âz r D):=by
 delta fC;rw[Xp];exact pI λg _=>by
  rw[Xk (B:=B) j nd G,Xn,alr,show kq false=0 from rfl,Int.add_zero,Int.sub_zero]
def Oe(j:b<n)(hi:∀a,a<n->sm a=sm b->a=b)(m:s∈D)(nd:D.Nodup)(Y:sm b∉D):jz ((List.range (2^n)).map Çb) (fC n sm lf Þ D).2 B (2^b)=(List.range (2^n)).map (du n sm Åg r D):=by
 delta fC;rw[Xp];exact pI λg _=>by
  rw[Xl (B:=B) j hi m nd Y,Xo,alq];rfl
def alR(j:s∈D)(nd:D.Nodup)(G:∀b,b<n->sm b≠s):rX (fC n sm lf Þ D) s B 0 ((List.range (2^n)).map Çb)=fC n sm Âz r D:=by
 delta rX;rw[Xq j nd G];delta fC;rw[Xi _ _ j,Od];congr 1;apply kY;intro x m;congr 1;by_cases h:x=s
 .rw[af h,h];exact pI λg _=>by rw[Oc,vq,Xn];omega
 .rw[ah h];exact pI λg _=>by rw[xf _ _ h,AD _ _ _ _ (d8 h)]
def alS{b:Nat}(m:b<n)(hi:∀a,a<n->sm a=sm b->a=b)(j:s∈D)(nd:D.Nodup)(Y:sm b∉D):rX (fC n sm lf Þ D) s B (2^b) ((List.range (2^n)).map Çb)=fC n sm Åg r D:=by
 delta rX;rw[Oe m hi j nd Y];delta fC;rw[Xi _ _ j,Od];congr 1;apply kY;intro x F;congr 1;let U:x≠sm b:=λz=>Y (z▸ F);by_cases h:x=s
 .rw[af h,h];exact pI λg _=>by rw[xf _ _ (h▸ U),vq,Xo];omega
 .rw[ah h];exact pI λg _=>by rw[xf _ _ U,AD _ _ _ _ (d8 h)]
end
abbrev cy(sames:LN):Nat->Nat:=λb=>sames.getD b 0
structure oE(sames left:LN)(l:cj)(D:LN):Prop where
 nd:D.Nodup
 AE:yF å l D
 bits:∀p∈l,p.2<2^sames.length
 sgn:∀p∈l,∀b,b<sames.length->cy sames b≠p.1
 sd:∀b,b<sames.length->cy sames b∉D
 all:∀g,g<2^sames.length->0<=du sames.length Ā å l D g
def ue(h:0<left.getD f 0):a8 ė=dec å f:=by
 let m:f<left.length:=by
  grind
 funext j;delta a8 dec Flags.less1;grind
def He(nd:sames.Nodup)(m:b<sames.length):∀a,a<sames.length->cy sames a=cy sames b->a=b:=λa j e=>by
 delta cy at e;rw[iC,iC,cY j,cY m] at e;exact(YH nd).mp e
def cnt_cons(r:cj)(s B:Nat):ji Þ s=ji r s+1:=by
 delta ji;simp
def Hf(r:cj)(B:Nat)(h:s≠x):ji Þ x=ji r x:=by
 delta ji;symm
def alT(n:Nat)(sm:Nat->Nat)(lf:Nat->Int):jj n sm lf 0=0:=by
 delta jj;exact N9 _ λb _=>by rw[Nat.zero_testBit,ah eC]
def alU(m:b<n):jj n sm lf (2^b)=lf ϳ:=by
 delta jj;let:=Hd (λ_=>(0:Int)) (λa=>if (2^b).testBit a=true then lf (sm a) else 0) (s:=b) (D:=List.range n) Zf É λx z j=>by
  grind
 rw[this,N9 _ λ_ _=>rfl,aqC,af rfl];omega
def Of(z:Int):0<=cE z:=by delta cE;split <;> omega
theorem Xr(lf:Nat->Int)(l:cj)(g:Nat):∀D:LN,0<=i3 lf l g D:=by
 intro D;induction D with
 |nil=>exact Ig _
 |cons s D I=>
  let j:=I;let h2:=Of (ĕ g);delta i3 at j⊢;rw[aX,gX];omega
theorem alV(lf:Nat->Int)(l:cj)(g:Nat){s:Nat}{D:LN}:s∈D->cE (ĕ g)<=i3 lf l g D:=by
 induction D with
 |nil=>exact @λh=>absurd h Ä
 |cons x D I=>
  intro h;let j:=Xr lf l g D;let h2:=Of (bo lf l x g);rcases a0.mp h with rfl|h
  .delta i3 at j⊢;rw[aX,gX];omega
  .let m:=I h;delta i3 at j m⊢;rw[aX,gX];omega
def alW{sm:Nat->Nat}(hs:s∈D)(h:0<=du n sm Äw r D 0):0<left.getD s 0:=by
 apply aqI λz=>?_;let j:=alV Äw r 0 hs;let h2:=Dm r s 0;let m:=Oc å r s 0;delta du at h;rw[alT] at h;let F:bo å r s 0=(ji r s:Int)-jS r s 0:=by delta bo a8;rw[z];omega
 delta cE at j;omega
def alX(j:b<n)(h:0<=du n sm (dec å ϳ) r D (2^b)):0<left.getD ϳ 0:=by
 let m:=Xr (dec å ϳ) r (2^b) D;delta du at h;rw[alU j] at h;let:dec å ϳ ϳ=((left.getD ϳ 0:Nat):Int)-1:=by delta dec a8;rw[af rfl]
 omega
section
variable{L:Flags.Locker}{sames left:LN}{r:cj}{D:LN}{s B:Nat}
def oE.sign(c:Àb Þ D)(z:0<left.getD s 0)(h:∀g,g<2^sames.length->0<=du sames.length Ā Äw r D g):oE sames (Flags.less1 left s) r D:=by
 apply(c.nd,λx F=>?_,λp j=>c.bits p (aP _ j),λp j=>c.sgn p (aP _ j),c.sd,by rw[ue z];exact h);rw[ue z];let:=c.AE x F;delta dec;by_cases m:x=s
 .subst m;rw[cnt_cons] at this;rw[af rfl];omega
 .rw[Hf _ _ (d8 m)] at this;rw[ah m];exact this
def oE.same(c:Àb Þ D){b:Nat}(I:b<sames.length)(m:0<left.getD Ħ 0)(hs:s∈D)(h:∀g,g<2^sames.length->0<=du sames.length Ā (dec å Ħ) r D g):oE sames (Flags.less1 left Ħ) r D:=by
 apply(c.nd,λx F=>?_,λp j=>c.bits p (aP _ j),λp j=>c.sgn p (aP _ j),c.sd,by rw[ue m];exact h);rw[ue m];let:=c.AE x F;let J:x≠s:=λz=>F (z▸ hs);rw[Hf _ _ (d8 J)] at this;delta dec;by_cases U:x=cy sames b
 .rw[af U];let G:ji r x=0:=Ob λz=>by
   let(p,j,e):=cb.mp z;exact c.sgn p (aP _ j) b I (by rw[<-U];exact e.symm)
  rw[G];let:a8 left x=((left.getD Ħ 0:Nat):Int):=by rw[U];rfl
  omega
 .rw[ah U];exact this
def AF(m:L.sameKinds=sames)(nd:sames.Nodup)(c:Àb Þ D)(j:0<left.getD f 0)(hd:yF (dec å f) r D):L.enough ė Át=true↔ ∀g,g<2^sames.length->0<=du sames.length Ā (dec å f) r D g:=by
 let:=Xg m nd ė r (λp z=>c.bits p (aP _ z)) c.nd (by rw[ue j];exact hd);rw[ue j] at this;exact this
def AG(L:Flags.Locker)(sames left:LN)(s B:Nat)(r:cj):Nat:=(((dm sames (s,B)).sign::if 0<Flags.lacks left (((s,B)::r).map ô) (dm sames (s,B)).sign then (dm sames (s,B)).may else []).filter λ(f:Nat)=>decide (0<left.getD f 0)&&L.enough ė Át).headD 0
def Xs(h:(decide (0<left.getD s 0)&&L.enough (Flags.less1 left s) Át)=true):AG L sames left s B r=s:=by
 delta AG;rw[xu,af (show(decide (0<left.getD (dm sames (s,B)).sign 0)&&L.enough (Flags.less1 left (dm sames (s,B)).sign) Át)=true from h)];rfl
def alY:L.fill (((s,B)::r).map ô) left=AG L sames left s B r::L.fill Át (Flags.less1 left (AG L sames left s B r)):=rfl
def alZ(sames:LN)(st:ik)(s B:Nat)(row:LI)(P:Nat->Bool):∀bs:LN,(∀b∈bs,ox (jz row st.2 B (2^b))=P Ħ)->(∃b∈bs,P Ħ=true)->
  ∃b∈bs,vj sames st s B row bs=some (cy sames b,rX st s B (2^b) row)/\P Ħ=true/\((bs.map Ā).filter P).headD 0=cy sames b:=by
 intro bs;induction bs with
 |nil=>
  intro _ h;let(b,O,_):=h;cases O
 |cons b bs Y=>
  intro G h;let F:=G b Ä;delta vj;by_cases j:P Ħ=true
  .rw[F,af j];apply(b,by simp,rfl,j,?_);rw[aX,A4 j];rfl
  .rw[F,ah j];let(x,S,m):=h;let Z:=(a0.mp S).elim (λz=>absurd (z▸ m) j) id;let(y,U,I,J,M):=Y (λz W=>G z (aP _ W)) ⟨x,Z,m⟩;apply(y,aP _ U,I,J,?_);rw[aX,A5 j];exact M
def al0(J:L.sameKinds=sames)(nd:sames.Nodup)(c:Àb Þ D):
  ∃f,oy sames ĝ s B=some (f,fC sames.length Ā (a8 ė) r D)/\oE sames ė r D/\AG L sames left s B r=f:=by
 let M:=c.sgn (s,B) Ä;by_cases hs:s∈D
 .let Y:oy sames ĝ s B=if ox (jz ((List.range (2^sames.length)).map Âj) (fC sames.length Ā å Þ D).2 B 0)=true then some (s,rX ĝ s B 0 ((List.range (2^sames.length)).map Âj))
    else vj sames ĝ s B ((List.range (2^sames.length)).map Âj) (pA sames.length B):=by
   delta oy;let:b7 (fC sames.length Ā å Þ D).1 s=some ((List.range (2^sames.length)).map Âj):=(EW (λx=>(List.range (2^sames.length)).map (bo å Þ x)) s D).trans (af hs);rw[this]
  rw[Xq hs c.nd M,alR hs c.nd M] at Y;let ES:yF Äw r D:=λx O=>by
   let:=c.AE x O;let pJ:x≠s:=λz=>O (z▸ hs);rw[Hf _ _ (d8 pJ)] at this;delta dec;omega
  by_cases ax:ox ((List.range (2^sames.length)).map (du sames.length Ā Äw r D))=true
  .rw[af ax] at Y;let ax:=(Do _ _).mp ax;let j:=alW hs (ax 0 (Nat.two_pow_pos _));apply(s,by rw[Y,ue j],c.sign j ax,Xs ?_);rw[eP j,(AF J nd c j ES).mpr ax];rfl
  .rw[ah ax] at Y;let ax:=λz=>ax ((Do _ _).mpr z);let Xv:¬N7 sames.length Ā å Þ D s B:=λz=>ax λg G=>by
    rw[Xk (B:=B) hs c.nd M];exact z g G
   let hex:=(alD _ _ _ r hs c.all).resolve_left Xv;let we:∀b∈pA sames.length B,b<sames.length/\B.testBit b=true:=λb m=>by
    delta pA at m;let(h1,h2):=kJ.mp m;rw[yE] at h2;symm
   let W:∀b,b<sames.length->0<left.getD Ħ 0->yF (dec å Ħ) r D:=λb m j x O=>by
    let:=c.AE x O;let pJ:x≠s:=λz=>O (z▸ hs);rw[Hf _ _ (d8 pJ)] at this;delta dec;by_cases ud:x=cy sames b
    .rw[af ud];let e0:ji r x=0:=Ob λz=>by
      let(p,hp,e):=cb.mp z;exact c.sgn p (aP _ hp) b m Å
     rw[e0];let:a8 left x=((left.getD Ħ 0:Nat):Int):=by rw[ud];rfl
     omega
    .omega
   let hP:∀b,b<sames.length->ox (jz ((List.range (2^sames.length)).map Âj) (fC sames.length Ā å Þ D).2 B (2^b))=(decide (0<left.getD Ħ 0)&&L.enough (Flags.less1 left Ħ) Át):=λb m=>by
    rw[Oe m (He nd m) hs c.nd (c.sd b m),pO,Do,iU,lL];constructor
    .intro h;let j:=alX m (h (2^b) (Nat.pow_lt_pow_right Ù m));exact(j,(AF J nd c j (W b m j)).mpr h)
    .rintro⟨j,h⟩;exact(AF J nd c j (W b m j)).mp h
   let(b0,hb0,Z):=hex;let F:b0<sames.length:=by
    apply Y0 λz=>?_;let hB:=c.bits (s,B) Ä;let:B.testBit b0=false:=DY (iB hB (Ic Ù z));symm
   let(b,m,e1,e2,e3):=alZ sames ĝ s B ((List.range (2^sames.length)).map Âj) (λf=>decide (0<left.getD f 0)&&L.enough ė Át) (pA sames.length B) (λb m=>hP b (we b m).1)
    ⟨b0,kJ.mpr ⟨À F,by rw[yE];exact hb0⟩,by
     rw[<-hP b0 F,Oe F (He nd F) hs c.nd (c.sd b0 F),Do];intro g G;rw[Xl (B:=B) F (He nd F) hs c.nd (c.sd b0 F)];exact Z g G⟩
   let S:=(we b m).1;let e2:=e2;let I:=e2;rw[iU,lL] at I;let U:=(AF J nd c I.1 (W b S I.1)).mp I.2;apply(cy sames b,?_,c.same S I.1 hs U,?_)
   .rw[Y,e1,alS S (He nd S) hs c.nd (c.sd b S),ue I.1]
   .let hnp:¬(decide (0<left.getD (dm sames (s,B)).sign 0)&&L.enough (Flags.less1 left (dm sames (s,B)).sign) Át)=true:=λz=>by
     let z:=z;rw[iU,lL] at z;exact ax ((AF J nd c z.1 ES).mp z.2)
    let al4:0<Flags.lacks left (((s,B)::r).map ô) (dm sames (s,B)).sign:=by
     apply aqI λz=>Xv λg G=>?_;let z:Flags.lacks left (((s,B)::r).map ô) s=0:=z;rw[Xe] at z;let h1:=Dm r s g;let h2:=vq å r s B g;let h3:=c.all g G;let h4:bo å r s g+1<=0:=by
      rw[cnt_cons] at z;delta bo a8;omega
     let h5:=Of (bo å Þ s g);rw[h2] at h5⊢;rw[show bo å r s g+1-oZ g B+oZ g B=bo å r s g+1 by omega];let h6:cE (bo å r s g+1)=0:=by delta cE;rw[ah Å]
     omega
    delta AG;rw[xu,ah hnp,af al4];exact e3
 .let Y:oy sames ĝ s B=some (s,fC sames.length Ā å Þ D):=by
   delta oy;let:b7 (fC sames.length Ā å Þ D).1 s=none:=(EW (λx=>(List.range (2^sames.length)).map (bo å Þ x)) s D).trans (ah hs);symm
  let j:0<left.getD s 0:=by
   let:=c.AE s hs;rw[cnt_cons] at this;delta a8 at this;omega
  let U:∀g,g<2^sames.length->0<=du sames.length Ā Äw r D g:=λg G=>by
   rw[Xm (B:=B) hs M];exact c.all g G
  let cs:=c.sign j U;apply(s,by rw[Y,ue j,alQ hs M],cs,Xs ?_);let hd:=cs.AE;rw[ue j] at hd;rw[eP j,(AF J nd c j hd).mpr U];rfl
end
section
variable{L:Flags.Locker}{sames:LN}{D:LN}
def al5(M:L.sameKinds=sames)(nd:sames.Nodup)(l:cj):∀(bQ:cj)(left:LN),Àb (l++bQ) D->
  ∃fs Y,oA sames (fC sames.length Ā å (l++bQ) D) l=some (fs,fC sames.length Ā (a8 Y) bQ D)/\oE sames Y bQ D/\L.fill ((l++bQ).map ô) left=fs++L.fill (bQ.map ô) Y:=by
 induction l with
 |nil=>exact @λbQ left c=>⟨[],left,Á,c,Á⟩
 |cons m l O=>
  let(s,B):=m;intro bQ left c;let(f,j,z,G):=al0 M nd (show oE sames left ((s,B)::(l++bQ)) D from c);let(fs,Y,I,F,J):=O bQ ė z;apply(f::fs,Y,?_,F,?_)
  .delta oA;let j:oy sames (fC sames.length Ā å ((s,B)::l++bQ) D) (s,B).1 (s,B).2=some (f,fC sames.length Ā (a8 ė) (l++bQ) D):=j;rw[j];dsimp only;rw[I]
  .let:=alY (L:=L) (sames:=sames) (left:=left) (r:=l++bQ) (s:=s) (B:=B);rw[G,J] at this;exact this
def al6(I:L.sameKinds=sames)(nd:sames.Nodup)(ps:List cj):∀(left:LN),Àb ps.flatten D->
  ∃x,m4 sames (fC sames.length Ā å ps.flatten D) ps=some x/\L.fill (ps.flatten.map ô) left=x.1.flatten:=by
 induction ps with
 |nil=>exact @λleft c=>⟨_,Á,Á⟩
 |cons p ps J=>
  intro left c;let(fs,Y,m,j,z):=al5 I nd p ps.flatten left c;let(x,F,G):=J Y j;apply((fs::x.1,x.2),?_,?_)
  .delta m4;rw[P7,m];dsimp only;rw[F]
  .rw[P7,z,G];rfl
end
theorem al7:∀hs:br,Flags.pieces (hs.map List.length) hs.flatten=hs:=by
 intro hs;induction hs with
 |nil=>exact Á
 |cons h hs I=>
  rw[aX,P7];delta Flags.pieces;rw[List.take_left,List.drop_left,I]
theorem zD{β:Type}{t:List (Nat×β)}(nd:(t.map (·.1)).Nodup){p:Nat×β}(h:p∈t):b7 t p.1=some p.2:=by
 induction t with
 |nil=>cases h
 |cons x t I=>
  let(j,nd):=kO.mp nd;delta b7;rcases a0.mp h with rfl|h
  .simp
  .let:x.1≠p.1:=λz=>j É;rw[Ze É];exact I nd h
theorem al8(l:cj)(s g:Nat):((rT g ((l.filter λp=>decide (p.1=s)).map (·.2)):Nat):Int)=jS l s g:=by
 delta rT jS;generalize l.filter (λp=>decide (p.1=s))=M;induction M with
 |nil=>rfl
 |cons p M I=>
  rw[aX,aX,gX,<-I];delta oZ kq;grind
theorem Xw(l:cj)(s:Nat):ji l s=(l.map (·.1)).count s:=by
 delta ji;induction l with
 |nil=>rfl
 |cons p l I=>
  rw[aX,List.count_cons];by_cases h:p.1=s
  .rw[A4 (À h),dc,I];simp[h]
  .rw[A5 (À h),I];simp[h]
theorem al9(G:Nat)(h:Nat->Nat->Int)(D:LN):∀(f:Nat->Int),rW G ((List.range G).map f) (D.map λs=>(s,(List.range G).map (h s)))=(List.range G).map λg=>f g-(D.map λs=>cE (h s g)).sum:=by
 induction D with
 |nil=>exact @λf=>pI λg _=>by rw[lK,List.sum_nil];omega
 |cons s D I=>
  intro f;let e:yw G ((List.range G).map f) ((List.range G).map (h s))=(List.range G).map λg=>f g-cE (h s g):=by
   delta yw;exact pI λg j=>by rw[Xh f j,Xh _ j]
  rw[aX];show rW G (yw G ((List.range G).map f) ((List.range G).map (h s))) _=_;rw[e,I];exact pI λg _=>by rw[aX,gX];omega
abbrev jB(ms:aF):LN:=ms.map λm=>m.copies.toNat
theorem Hg{ms:aF}(hc:∀m∈ms,0<=m.copies)(s:Nat):tH ms s=a8 (jB ms) s:=by
 delta tH a8 jB;cases e:ms[s]? with
 |none=>
  rw[iC,iC,bz,e];rfl
 |some m=>
  rw[iC,iC,bz,e];let:=hc m (bI e);show m.copies=((m.copies.toNat:Nat):Int);omega
theorem ama(hc:∀m∈ms,0<=m.copies)(sames:LN)(g:Nat):rV ms sames g=jj sames.length Ā Ŋ g:=by
 delta rV rS jj;generalize List.range sames.length=M;induction M with
 |nil=>rfl
 |cons b M I=>
  let e:=Hg hc Ħ;delta tH at e;rw[aX,gX,<-I];by_cases h:yr g b=true
  .rw[A4 h,aX,gX,af (by rw[<-yE];exact h),e]
  .rw[A5 h,ah (by rw[<-yE];exact h),Za]
def Oh(rows j:br):(m5 rows j).flatten=eY rows j:=by
 rfl
def oG(ms:aF)(rows:br):LN:=(jy ms rows.flatten).map (·.1)
def Oi(ms:aF)(rows:br):(eY rows ň).map (·.1)=rows.flatten:=VI rows ň (VJ ms rows) (Nm ms rows)
def amb(h:p∈jy ms flat):p.2=(flat.count p.1:Int)-tH ms p.1:=by
 delta jy at h;let(q,j,e):=HJ.mp h;delta ph at e;split at e
 .let e:=(aI e).symm;subst e;let m:=zD (F5 flat) j;let h2:=U6 flat q.1;symm
 .cases e
def amc(hc:∀m∈ms,0<=m.copies)(h:s∉(jy ms flat).map (·.1)):(flat.count s:Int)<=tH ms s:=by
 by_cases hs:flat.contains s=true
 .let j:=U7 flat s;rw[hs] at j;let(n,F):=HK.mp j;let h2:=U6 flat s;rw[F] at h2;let h2:=h2;let G:(s,n)∈gD flat:=by
   delta b7 at F;cases e:(gD flat).find? λp=>decide (p.1=s) with
   |none=>symm
   |some q=>
    grind
  apply Int.not_lt.mp λz=>h ?_;apply cb.mpr ⟨(s,(n:Int)-tH ms s),?_,Á⟩;delta jy;apply HJ.mpr ⟨(s,n),G,?_⟩;delta ph;symm
 .let:flat.count s=0:=List.count_eq_zero.mpr (λz=>hs É);rw[this,Hg hc];delta a8;omega
def Oj(hc:∀m∈ms,0<=m.copies)(rows:br):pB ms rows=fC (bf ms).length Èd Ŋ ù Ź:=by
 let z:Da ms rows=(oG ms rows).map λs=>(s,(List.range (2^(bf ms).length)).map (bo Ŋ ù s)):=by
  delta Da ou oG;rw[cV];apply kY;intro p F;congr 1;delta Gb;apply pI λg _=>?_;rw[Vc,al8,amb F,Hg hc];delta bo;rw[Xw,Oi]
 delta pB;rw[z];delta fC;congr 1;let j:(List.range (2^(bf ms).length)).map (rV ms Ĩ)=(List.range (2^(bf ms).length)).map (jj (bf ms).length Èd Ŋ):=pI λg _=>ama hc _ g;rw[j,al9];rfl
end HD
end
section
namespace HD
open PySem L2 JM
def Xx{L:Flags.Locker}{ms:aF}(hk:L.kinds=ms.map bY){i:Nat}(hi:i<ms.length):L.kinds[i]? =some (bY Ϙ):=by
 symm
def Xy{L:Flags.Locker}{ms:aF}(hk:L.kinds=ms.map bY){i:Nat}(hi:i<ms.length):(L.kinds[i]?).map Flags.Kind.role=some (qD Ϙ):=by
 rw[Xx hk hi];rfl
def Ol{L:Flags.Locker}{ms:aF}(hk:L.kinds=ms.map bY):L.sameKinds=bf ms:=by
 delta Flags.Locker.sameKinds bf;let z:L.kinds.length=ms.length:=by rw[hk,az]
 rw[z];apply Zg;intro i hi;let hi:i<ms.length:=À hi
 rw[Xy hk hi];delta qD;by_cases m:(ms.getD i fu).role=0
 .rw[af m,m];rfl
 .rw[ah m];by_cases j:(ms.getD i fu).role=1
  .rw[af j,j];rfl
  .rw[ah j,f7 j]
def amd{L:Flags.Locker}{ms:aF}(hk:L.kinds=ms.map bY){s:Nat}(hs:s∈bf ms):L.points s=(lF ms s).toNat:=by
 delta bf at hs;let(j,h2):=kJ.mp hs;simp at j;let h2:(ms.getD s fu).role=1:=À h2
 delta Flags.Locker.points;rw[Xy hk j];delta qD;rw[ah Å,af h2];rfl
theorem ame(P:Nat->Bool)(l:LN):l.filter P=((List.range l.length).filter λb=>P (l.getD b 0)).map λb=>l.getD b 0:=by
 induction l with
 |nil=>exact Á
 |cons x l I=>
  let I:=I;rw[dc,DO,xu,xu,yS];let e:((λb=>P ((x::l).getD b 0))∘Nat.succ)=λb=>P (l.getD b 0):=rfl;rw[e];by_cases h:P x=true
  .rw[af h,af (show P ((x::l).getD 0 0)=true from h),aX,cV,I];rfl
  .rw[ah h,ah (show ¬P ((x::l).getD 0 0)=true from h),cV,I];rfl
def Xz(ms:aF)(sames row:LN)(i:Nat):tG ms sames row i=vt (Aa ms sames row i) sames.length:=rfl
def amf{L:Flags.Locker}{ms:aF}(hk:L.kinds=ms.map bY)(mo:wZ ms)(row:LN)(i:Nat):
  dm Ĩ (row.getD i 0,tG ms Ĩ row i)=⟨row.getD i 0,L.sameKinds.filter λ(f:Nat)=>decide (L.points f<=i)&&row.getD (L.points f-1) 0==row.getD i 0⟩:=by
 delta dm;dsimp only;congr 1;rw[Ol hk,ame];congr 1;delta pA;apply Zg;intro b j;let j:b<(bf ms).length:=À j
 let m:(bf ms).getD b 0∈bf ms:=by
  rw[iC,cY j];exact List.getElem_mem j
 rw[yE,Xz,Xd,eP j,ma,amd hk m];let F:=mo.pos _ m;delta Aa;let z:decide (lF ms ((bf ms).getD b 0)<=(i:Int))=decide ((lF ms ((bf ms).getD b 0)).toNat<=i):=by
  rw[Zd];omega
 rw[z,Bool.beq_eq_decide_eq]
theorem XA{L:Flags.Locker}{ms:aF}(hk:L.kinds=ms.map bY)(mo:wZ ms):∀rows:br,L.spots rows=(eY rows ň).map (dm Ĩ):=by
 intro rows;induction rows with
 |nil=>exact Á
 |cons r rows I=>
  let I:=I;delta Flags.Locker.spots eY fZ at I⊢;rw[DU,I,aX,DN,DU,bZ];congr 1;delta qH;let e:r=(List.range r.length).map λi=>r.getD i 0:=by
   let:=wU (l:=r) (g:=λx=>x) (d:=0);rw[List.map_id'] at this;exact this.symm
  let j:r.zip ((List.range r.length).map (tG ms Ĩ r))=(List.range r.length).map λi=>(r.getD i 0,tG ms Ĩ r i):=by
   apply xt;intro i;by_cases hi:i<r.length
   .rw[bz,P4 hi,Ie.mpr (show r[i]? =some (r.getD i 0,tG ms Ĩ r i).1/\((List.range r.length).map (tG ms Ĩ r))[i]? =some (r.getD i 0,tG ms Ĩ r i).2 from Áp)]
    .rfl
    .rw[iC,cY hi];rfl
    .rw[bz,P4 hi];rfl
   .rw[xp (by rw[List.length_zip];omega),xp (by rw[az,ib];omega)]
  rw[j,cV];apply kY;intro i _;exact(amf hk mo r i).symm
def XD(ms:aF):(bf ms).Nodup:=List.Nodup.sublist aqJ Zf
structure xh(ms:aF):Prop where
 mo:wZ ms
 cp:∀m∈ms,0<=m.copies
def AI(ms:aF)(rows:br):Prop:=∀r∈rows,∀s∈r,jP ms s=true
def XE(h:jP ms s=true):s∉bf ms:=λz=>by
 delta bf at z;let z:(ms.getD s fu).role=1:=by simpa using (kJ.mp z).2
 let h:(ms.getD s fu).role=0:=by delta jP at h;simpa using h
 omega
def XF(ms:aF)(rows:br):∀p∈eY rows ň,p.2<2^(bf ms).length:=λp j=>by
 delta eY fZ at j;let(q,F,j):=kZ.mp j;let z:=(DM F).2;let(r,_,e):=cb.mp z;let h2:=(DM j).2;rw[<-e] at h2;delta qH at h2;let(i,_,m):=cb.mp h2;rw[<-m,Xz];exact Oa _ _
def XG(g:xh ms)(rows:br):yF Ŋ ù Ź:=λs hs=>by
 rw[Xw,Oi,<-Hg g.cp];exact amc g.cp hs
def amg(g:xh ms)(sg:AI ms rows)(h:∀q,q<2^(bf ms).length->0<=du (bf ms).length Èd Ŋ ù Ź q):oE Ĩ (jB ms) ù Ź:=by
 let I:∀b,b<(bf ms).length->cy Ĩ b∈bf ms:=λb j=>by
  symm
 let J:∀s∈rows.flatten,jP ms s=true:=λs hs=>by
  let(r,hr,hs):=List.mem_flatten.mp hs;exact sg r hr s hs
 apply(Nn _ _,XG g rows,XF ms rows,λp F b j e=>?_,λb j m=>?_,h)
 .let z:p.1∈rows.flatten:=by rw[<-Oi ms rows];exact cb.mpr ⟨p,F,Á⟩
  exact XE (J _ z) (e▸ I b j)
 .delta oG at m;let(q,G,e):=cb.mp m;exact XE (J _ (VL G)) É
def Hh{L:Flags.Locker}{ms:aF}(hk:L.kinds=ms.map bY)(g:xh ms)(rows:br):L.enough L.allCopies (L.spots rows)=true↔ ∀q,q<2^(bf ms).length->0<=du (bf ms).length Èd Ŋ ù Ź q:=by
 rw[XA hk g.mo,show L.allCopies=jB ms by delta Flags.Locker.allCopies jB;rw[hk,cV];rfl];exact Xg (Ol hk) (XD ms) _ _ (XF ms rows) (Nn _ _) (XG g rows)
def XH(g:xh ms)(rows:br):(pB ms rows).2.any (λz=>decide (z<0))=false↔ ∀q,q<2^(bf ms).length->0<=du (bf ms).length Èd Ŋ ù Ź q:=by
 rw[Oj g.cp];let:=Do (du (bf ms).length Èd Ŋ ù Ź) (2^(bf ms).length);rw[<-this];delta ox fC;simp
def Om{L:Flags.Locker}{ms:aF}(hk:L.kinds=ms.map bY)(g:xh ms){rows:br}(sg:AI ms rows):oB ms rows=some (if L.canShowAll rows=true then some (L.displayed rows) else none):=by
 let I:(∀q,q<2^(bf ms).length->0<=du (bf ms).length Èd Ŋ ù Ź q)->∃x,m4 Ĩ Æq Ãw=some x/\x.1.map List.length=rows.map List.length/\L.displayed rows=x.1:=λh=>by
  let c:=amg g sg h;rw[<-Oh] at c;let(x,j,m):=al6 (L:=L) (Ol hk) (XD ms) Ãw (jB ms) c;rw[Oh,<-Oj g.cp] at j;rw[Oh,<-XA hk g.mo] at m;let F:x.1.map List.length=rows.map List.length:=by
   rw[Wq _ _ _ _ j];delta m5 fZ;rw[cV];apply xt;intro i;rw[bz,bz,Zc,bz];cases er:rows[i]? with
   |none=>symm
   |some r=>
    rw[Ie.mpr (show rows[i]? =some (r,r).1/\rows[i]? =some (r,r).2 from⟨er,er⟩)];delta qH;simp
  apply(x,j,F,?_);let W:=(Hh hk g rows).mpr h;delta Flags.Locker.displayed Flags.Locker.display;rw[af W,show L.allCopies=jB ms by delta Flags.Locker.allCopies jB;rw[hk,cV];rfl,m,<-F];exact al7 x.1
 let G:L.canShowAll rows=L.enough L.allCopies (L.spots rows):=rfl;delta oB;by_cases F:jy ms rows.flatten=[]
 .rw[af F];let J:oG ms rows=[]:=by delta oG;rw[F];rfl
  let h:∀q,q<2^(bf ms).length->0<=du (bf ms).length Èd Ŋ ù Ź q:=λq _=>by
   rw[J];delta du i3 jj;rw[lK,List.sum_nil,Int.sub_zero];generalize List.range (bf ms).length=M;induction M with
   |nil=>simp
   |cons b M S=>
    rw[aX,gX];let:(0:Int)<=if q.testBit b=true then a8 (jB ms) (cy Ĩ b) else 0:=by
     delta a8;omega
    omega
  let(x,j,_,m):=I h;let en:m4 Ĩ Æq Ãw=some ((m5 rows ň).map (λp=>p.map (·.1)),pB ms rows):=by
   let Y:∀(l:cj)(st:ik),st.1=[]->oA Ĩ st l=some (l.map (·.1),st):=by
    intro l;induction l with
    |nil=>intro st _;rfl
    |cons p l S=>
     intro st U;delta oA oy;rw[U,show b7 ([]:List (Nat×LI)) p.1=none from rfl];grind
   let h2:∀(ps:List cj)(st:ik),st.1=[]->m4 Ĩ st ps=some (ps.map (λp=>p.map (·.1)),st):=by
    intro ps;induction ps with
    |nil=>intro st _;rfl
    |cons p ps S=>
     intro st U;delta m4;grind
   apply h2 _ _ ?_;rw[Oj g.cp,J];rfl
  let ex:x.1=rows:=by
   rw[en] at j;rw[<-aI j];delta m5 fZ;rw[cV];apply xt;intro i;rw[bz,Zc,bz];cases er:rows[i]? with
   |none=>symm
   |some r=>
    rw[Ie.mpr (show rows[i]? =some (r,r).1/\rows[i]? =some (r,r).2 from⟨er,er⟩)];show some ((r.zip (qH ms Ĩ r)).map (·.1))=some r;rw[List.map_fst_zip (by delta qH;rw[az,ib];exact bU _)]
  rw[G,af ((Hh hk g rows).mpr h),m,ex]
 .rw[ah F];by_cases O:(pB ms rows).2.any (λz=>decide (z<0))=true
  .rw[af O,G,ah (λz=>?_)];let:=(XH g rows).mpr ((Hh hk g rows).mp z);symm
  .rw[ah O];let h:=(XH g rows).mp É;let(x,j,_,m):=I h;rw[j,G,af ((Hh hk g rows).mpr h),m];rfl
structure sj(ms:aF):Prop where
 kv:∀m∈ms,Kv m
 pw:ms.Pairwise λp x=>iR p x=true
 nm:(ms.filter isSign).Pairwise λa b=>a.name≠b.name
def On(m:aY t)(h:gn t=some x):sj x.2:=by
 delta gn at h;split at h
 .rename_i l r e;cases e1:fq (codes "locker") l with
  |none=>rw[e1,Cg] at h;cases h
  |some n=>
   cases e2:gO r with
   |none=>rw[e2,Cf] at h;cases h
   |some ms=>
    rw[e1,e2] at h;let h:(if (oa ms&&o7 ms)=true then some (n,ms) else none)=some x:=h;split at h
    .rename_i j;let:=aI h;subst this;let hr:=λw z=>by
      delta jL at e;split at e
      .let e:=aI e;let:w∈(aJ 10 t).dropLast:=by rw[e];exact aP _ z
       exact qu 10 m w (A1 _ this)
      .symm
     let kv:=Mt hr e2;let(j,hd):=sy.mp j;apply(kv,?_,?_)
     .delta oa at j;split at j
      .symm
      .exact(Mu kv).mp j
     .delta o7 at hd;let(hd,_):=sy.mp hd;simp at hd;let:=Mv.mp hd;rw[P6] at this;apply this.imp λ{a b}O e=>?_;rw[Mw,eP e] at O;symm
    .symm
 .cases h
theorem XI:∀{l:LI}{lo hi:Int},l.Pairwise (· < ·)->(∀x∈l,lo<=x/\x<=hi)->l≠[]->(l.length:Int)<=hi-lo+1
 |[],_,_,_,_,h=>absurd rfl h
 |[x],lo,hi,_,h,_=>by
  let:=h x Ä;simp only[aqz];omega
 |x::y::l,lo,hi,pw,h,_=>by
  let(m,h2):=Ia.mp pw;let F:=h x Ä;let:=XI (l:=y::l) (lo:=x+1) (hi:=hi) h2 (λz j=>⟨by let:=m z j;omega,(h z (aP _ j)).2⟩) Ä;rw[dc];omega
def amh{ms:aF}(f:sj ms):(bf ms).length<=4:=by
 by_cases m:bf ms=[]
 .rw[m];decide
 let O:∀i∈bf ms,i<ms.length/\(ms.getD i fu).role=1:=λi hi=>by
  delta bf at hi;let(W,h2):=kJ.mp hi;exact(À W,À h2)
 let U:∀i,i<ms.length->ms[i]? =some Ϙ:=λi hi=>by
  rw[iC,cY hi];rfl
 let J:=λi hi=>bI (U i hi);let S:(bf ms).Pairwise (· < ·):=by
  delta bf;exact List.Pairwise.sublist aqJ List.pairwise_lt_range
 let hw:((bf ms).map (lF ms)).Pairwise (· < ·):=by
  rw[P6];apply List.Pairwise.imp_of_mem (λ{i j}hi Z M=>?_) S;let(I,F):=O i hi;let(G,j2):=O j Z;let Y:=(pw_place.mp f.pw) j _ (U j G) Ϙ (by
   apply bI (i:=i) ?_;rw[YR M,U i I])
  let:=(wO (f.kv _ (J i I)) (f.kv _ (J j G)) j2).mp Y;delta lF;rcases this with h|h
  .omega
  .exact h.2
 let:=XI (lo:=1) (hi:=4) hw (λz hz=>by
  let(i,hi,rfl):=cb.mp hz;let(I,F):=O i hi;exact(f.kv _ (J i I)).Cp F) (À m)
 rw[az] at this;omega
def Oq(f:sj ms):xh ms:=by
 apply(⟨by let:=amh f;omega,λs hs=>?_⟩,λm j=>by let:=(f.kv m j).cp;omega);delta bf at hs;let(z,h2):=kJ.mp hs;simp at z;simp at h2;let j:ms.getD s fu∈ms:=by
  symm
 exact((f.kv _ j).Cp h2).1
def ami(j:aY t)(h:gn t=some x):G0 x.2:=by
 let f:=On j h;let g:=Oq f;apply(λk hk=>(f.kv k hk).lk,g.mo,λrows sg=>?_);rw[Om (L:=⟨[],x.2.map bY⟩) rfl g sg];simp
def XJ(x:Str)(s:String)(F:aY ţ)(hs:(codes x).map B=Flags.ascii s)(h:aY l):Flags.wordName (Flags.ascii s) ĸ=(fq ţ l).map λn=>n.map B:=by
 delta Flags.wordName fq;rw[show Flags.cutAt 32 ĸ=(aJ 32 l).map ê from x8 32 Ù l h];let j:=qu 32 (l:=l) h;generalize aJ 32 l=W at j
 match W,j with
 |[],_=>rfl
 |[a],_=>rfl
 |[a,b],j=>
  let m:a.map B=Flags.ascii s↔a=codes x:=by
   rw[<-hs];exact(λe=>wm (j a Ä) F e,λe=>by rw[e])
  show(if a.map B=Flags.ascii s/\Flags.isName ϛ=true then some ϛ else none)=Option.map _ (if a=codes x/\iP b=true then some b else none);rw[FQ (j b Ä)];by_cases c:a=codes x/\iP b=true
  .rw[af c,af ⟨m.mpr c.1,c.2⟩];rfl
  .rw[ah c,ah (λz:_/\_=>c ⟨m.mp z.1,z.2⟩)];rfl
 |a::b::c::r,_=>rfl
def wF(l:LI):Bool:=!(aJ 32 l).contains []
def wG(l:LI):Bool:=!((aJ 32 l).drop 1).contains []
def XM(x:Int)(r:LI):wF (x::r)=(decide (x≠32)&&wG r):=by
 delta wF wG;show(!(if x=32 then []::aJ 32 r else match aJ 32 r with|[]=>[[x]]|w::l=>(x::w)::l).contains [])=_;by_cases h:x=32
 .rw[af h,f7 (λz=>z h),lI];simp
 .rw[ah h,eP h,ma];cases e:aJ 32 r with
  |nil=>exact absurd e (lZ 32 r)
  |cons w l=>
   simp
def amj(y:Int)(r:LI):wG (y::r)=if y=32 then wF r else wG r:=by
 delta wF wG;show(!((if y=32 then []::aJ 32 r else match aJ 32 r with|[]=>[[y]]|w::l=>(y::w)::l).drop 1).contains [])=_;by_cases h:y=32
 .rw[af h,af h];rfl
 .rw[ah h,ah h];cases e:aJ 32 r with
  |nil=>exact absurd e (lZ 32 r)
  |cons w l=>rfl
def kB(l:List UInt8):Bool:=l.getLast? !=some 32&&Flags.noTwoBlanks l
def Dq(h:0<=x/\x<=255):(B x==32)=decide (x=32):=by
 let:=Cm (p:=λx=>decide ((B x==32)=decide (x=32))) Ê h;symm
def XO(x y:Int)(j:0<=x/\x<=255)(m:0<=y/\y<=255)(r:List UInt8):kB (B x::B y::r)=(!(decide (x=32)&&decide (y=32))&&kB (B y::r)):=by
 delta kB;rw[show Flags.noTwoBlanks (B x::B y::r)=(!(B x==32&&B y==32)&&Flags.noTwoBlanks (B y::r)) from rfl,Dq j,Dq m,List.getLast?_cons_cons];cases (decide (x=32)&&decide (y=32)) <;> cases ((B y::r).getLast? !=some 32) <;> simp
def XQ(x:Int)(j:0<=x/\x<=255):kB [B x]=decide (x≠32):=by
 delta kB;rw[show Flags.noTwoBlanks [B x]=true from rfl,P5];let:=Dq j;show(some (B x)!=some 32)=_;by_cases h:x=32
 .rw[h];decide
 .rw[eP h];rw[f7 h] at this;let h2:B x≠32:=by simpa using this
  simpa using h2
theorem Os:∀(n:Nat)(r:LI)(x:Int),r.length<=n->aY (x::r)->x≠32->kB ((x::r).map B)=wG r
 |_,[],x,_,h,hx=>by
  rw[aX,lK,XQ x (h x Ä),eP hx];rfl
 |0,y::r,x,hl,_,_=>absurd hl Ä
 |n+1,y::r,x,hl,h,hx=>by
  let F:=h x Ä;let O:=h y Ä;simp at hl;rw[aX,aX,XO x y F O,f7 hx,lI,amj];by_cases j:y=32
  .rw[af j];cases r with
   |nil=>
    rw[lK,XQ y O,f7 (λz=>z j)];rfl
   |cons z r=>
    let G:=h z Ä;rw[aX,XO y z O G,eP j,ma,XM];by_cases m:z=32
    .rw[eP m,f7 (λw=>w m)];rfl
    .rw[f7 m,eP m,ma];exact Os n r z (by simp only[dc] at hl;omega) (λw I=>h w (aP _ (aP _ I))) m
  .rw[ah j];exact Os n r y hl (λw I=>h w (aP _ I)) j
def amm{l:LI}(h:aY l):Flags.isMeaning ĸ=m7 l:=by
 let S:m7 l=(!(decide (l.length>64)||(aJ 32 l).contains [])&&l.all λb=>decide (32<=b)&&decide (b<=126)):=rfl;let U:(aJ 32 l).contains []=!wF l:=by delta wF;rw[Qa]
 rw[S,U];delta Flags.isMeaning;rw[az,sr];let O:l.all ((λ(c:UInt8)=>decide (32<=c.toNat)&&decide (c.toNat<=126))∘B)=l.all λb=>decide (32<=b)&&decide (b<=126):=J9 h λx m=>by
  let:=Cm (p:=λx=>decide ((decide (32<=(B x).toNat)&&decide ((B x).toNat<=126))=(decide (32<=x)&&decide (x<=126)))) Ê m;simpa using this
 rw[O];cases l with
 |nil=>rfl
 |cons x r=>
  rw[XM];let hk:(((x::r).map B).head? !=some 32)=decide (x≠32):=by
   let:=Dq (h x Ä);show(some (B x)!=some 32)=_;by_cases m:x=32
   .rw[m];decide
   .rw[eP m];rw[f7 m] at this;let h2:B x≠32:=by simpa using this
    simpa using h2
  let J:decide (1<=(x::r).length)=true:=eP Ä;let M:decide ((x::r).length>64)=!decide ((x::r).length<=64):=by
   generalize (x::r).length=n;by_cases z:n<=64
   .rw[eP z,f7 Å];rfl
   .rw[f7 z,eP Å];rfl
  rw[hk,J,M,ma];let j:decide (x≠32)=true->kB ((x::r).map B)=wG r:=λm=>Os r.length r x (bU _) h (su m);delta kB at j;generalize (((x::r).map B).getLast? !=some 32)=F at j⊢;generalize Flags.noTwoBlanks ((x::r).map B)=p2 at j⊢;generalize (x::r).all (λb=>decide (32<=b)&&decide (b<=126))=G;generalize decide ((x::r).length<=64)=I;generalize wG r=W at j⊢;generalize decide (x≠32)=Y at j⊢;cases Y
  .cases F <;> cases p2 <;> cases G <;> cases I <;> cases W <;> rfl
  .let j:=j rfl;subst j;cases F <;> cases p2 <;> cases G <;> cases I <;> rfl
def amn(h:iQ line=some m)(j:m.role=0):iP m.name=true:=by
 delta iQ o5 at h;generalize aJ 32 line=ws at h;split at h
 .cases h
 .rename_i r F;by_cases z:ws.length=(if r=2 then 4 else 5)
  .rw[af z] at h;cases e1:l5 r ŏ with
   |none=>rw[e1,FC] at h;cases h
   |some n=>
    cases e2:rM r ŏ with
    |none=>rw[e2,FE] at h;cases h
    |some W=>
     cases e3:iG (ws.getD (ws.length-3) []) 8 with
     |none=>rw[e3,Mf] at h;cases h
     |some c=>
      cases e4:bj ÿ (ws.getD (ws.length-2) []) with
      |none=>rw[e4,FF] at h;cases h
      |some sh=>
       cases e5:iw (ws.getD (ws.length-1) []) with
       |none=>rw[e5,FG] at h;cases h
       |some lk=>
        rw[e1,e2,e3,e4,e5] at h;let:=aI h;subst this;let j:=j;delta l5 at e1;grind
  .symm
theorem amo{r:c7}:∀{ms:aF},gO r=some ms->∀m∈ms,m.role=0->iP m.name=true:=by
 induction r with
 |nil=>
  intro ms h m j;let:=aI h;subst this;exact absurd j Ä
 |cons l r I=>
  intro ms h m j;delta gO at h;cases e1:iQ l with
  |none=>rw[e1] at h;cases gO r <;> cases h
  |some k=>
   rw[e1] at h;cases e2:gO r with
   |none=>rw[e2] at h;cases h
   |some ks=>
    rw[e2] at h;let:=aI h;subst this;rcases a0.mp j with rfl|j
    .exact amn e1
    .exact I e2 m j
def amq{t:LI}{x:LI×aF}(h:gn t=some x):∀m∈x.2,m.role=0->iP m.name=true:=by
 delta gn at h;split at h
 .rename_i l r e;cases e1:fq (codes "locker") l with
  |none=>rw[e1,Cg] at h;cases h
  |some n=>
   cases e2:gO r with
   |none=>rw[e2,Cf] at h;cases h
   |some ms=>
    rw[e1,e2] at h;let h:(if (oa ms&&o7 ms)=true then some (n,ms) else none)=some x:=h;split at h
    .let:=aI h;subst this;exact amo e2
    .symm
 .cases h
def pK(name:LI)(m:g8):Bool:=decide (m.role=0)&&decide (m.name=name)
def amr{L:Flags.Locker}{ms:aF}(hk:L.kinds=ms.map bY)(f:sj ms){name:LI}(I:aY name):L.find Ãv=ms.findIdx? (pK name):=by
 delta Flags.Locker.find;rw[hk,List.findIdx?_map];let:∀l:aF,(∀m∈l,Kv m)->l.findIdx? ((λ(k:Flags.Kind)=>k.role== .sign Ãv)∘bY)=l.findIdx? (pK name):=by
  intro l;induction l with
  |nil=>intro _;rfl
  |cons m l M=>
   intro kv;let km:=kv m Ä;let e:((λ(k:Flags.Kind)=>k.role== .sign Ãv)∘bY) m=pK name m:=by
    show((bY m).role== .sign Ãv)=_;delta pK;by_cases j:m.role=0
    .rw[yk j,eP j,ma];by_cases F:m.name=name
     .rw[F,eP rfl];simp
     .rw[f7 F];let:m.name.map B≠name.map B:=λz=>F (wm km.nm I z);simpa using this
    .rw[f7 j,lI];by_cases G:m.role=1
     .rw[zZ G];rfl
     .let:=km.role;rw[FV km Å];rfl
   rw[Y4,Y4,e,M λx J=>kv x (aP _ J)]
 exact this ms f.kv
theorem ams(name:LI)(l:List (LI×Nat)):∀(acc:Option Nat),(∀p∈l,p.1≠name)->l.foldl (λacc p=>if p.1=name then some p.2 else acc) acc=acc:=by
 induction l with
 |nil=>exact @λacc _=>Á
 |cons p l I=>
  intro acc h;rw[DV,ah (h p Ä)];exact I acc λq j=>h q (aP _ j)
theorem amt(name:LI)(k:Nat)(l:List (LI×Nat)):∀(acc:Option Nat),(∀p∈l,p.1=name->p.2=k)->((∃p∈l,p.1=name)\/acc=some k)->l.foldl (λacc p=>if p.1=name then some p.2 else acc) acc=some k:=by
 induction l with
 |nil=>exact @λacc _ h=>h.elim (λ⟨p,j,_⟩=>absurd j Ä) id
 |cons p l I=>
  intro acc z h2;rw[DV];apply I _ (λq m=>z q (aP _ m)) ?_;by_cases j:p.1=name
  .rw[af j,z p Ä j];exact Or.inr Á
  .rw[ah j];rcases h2 with ⟨q,m,e⟩|h2
   .rcases a0.mp m with rfl|m
    .exact absurd e j
    .exact Or.inl ⟨q,m,e⟩
   .exact Or.inr h2
def XR(f:sj ms)(name:LI):jQ ms name=ms.findIdx? (pK name):=by
 let U:∀i,i<ms.length->ms[i]? =some Ϙ:=λi hi=>by
  rw[iC,cY hi];rfl
 let J:∀p,p∈tX ms ms.length↔ ∃j,j<ms.length/\(ms.getD j fu).role=0/\p=((ms.getD j fu).name,j):=λp=>by
  delta tX jP;simp only[cb,kJ,AV,lL];exact(λ⟨j,⟨m,h2⟩,e⟩=>⟨j,m,h2,e.symm⟩,λ⟨j,m,h2,e⟩=>⟨j,⟨m,h2⟩,e.symm⟩)
 let S:∀i j,i<j->j<ms.length->pK name Ϙ=true->pK name (ms.getD j fu)=true->False:=λi j Y F m h2=>by
  let G:=aqv.mp f.nm;let:=(pw_place.mp G) j _ (U j F) Ϙ (by
   apply bI (i:=i) ?_;rw[YR Y,U i Å])
  delta pK at m h2;let(Z,a2):=sy.mp m;let(b1,b2):=sy.mp h2;exact this Z b1 ((su a2).trans (su b2).symm)
 delta jQ;cases e:ms.findIdx? (pK name) with
 |none=>
  rw[aqK] at e;apply ams name _ none λp G z=>?_;let(j,F,I,rfl):=(J p).mp G;let:=e _ (bI (U j F));delta pK at this;rw[eP I,eP z] at this;cases this
 |some k=>
  let(hk,m,_):=P1.mp e;let M:pK name (ms.getD k fu)=true:=by
   rw[iC,cY hk];exact m
  let W:=sy.mp M;apply amt name k _ none (λp G z=>?_) (Or.inl ⟨((ms.getD k fu).name,k),(J _).mpr ⟨k,hk,su W.1,Á⟩,su W.2⟩);let(j,F,I,rfl):=(J p).mp G;let O:pK name (ms.getD j fu)=true:=by
   delta pK;rw[eP I,eP z];rfl
  rcases Nat.lt_trichotomy j k with h|h|h
  .exact(S j k h hk O M).elim
  .exact h
  .exact(S k j h F M O).elim
def amu{L:Flags.Locker}{ms:aF}(hk:L.kinds=ms.map bY)(f:sj ms){name:LI}(j:aY name):L.find Ãv=jQ ms name:=(amr hk f j).trans (XR f name).symm
def amv{ms:aF}(f:sj ms)(z:∀m∈ms,m.role=0->iP m.name=true){name:LI}{k:Nat}(h:jQ ms name=some k):iP name=true:=by
 rw[XR f] at h;let(hk,j,_):=P1.mp h;let j:=sy.mp j;let:=z _ (List.getElem_mem hk) (su j.1);rw[su j.2] at this;exact this
theorem amw{l:LI}:aY l->Flags.partAt 32 ĸ=if l.contains 32=true then some ((l.take (l.idxOf 32)).map B,(l.drop (l.idxOf 32+1)).map B) else none:=by
 induction l with
 |nil=>exact @λ_=>Á
 |cons x r I=>
  intro h;let I:=I λw G=>h w (aP _ G);let j:=Dq (h x Ä);rw[aX];delta Flags.partAt;rw[List.idxOf_cons,AQ];by_cases e:x=32
  .rw[af (by rw[eP e] at j;simpa using j),af (by rw[e];rfl)];subst e;rfl
  .let F:¬B x=32:=by rw[f7 e] at j;simpa using j
   let m:(x==32)=false:=À e
   let z:((32:Int)==x)=false:=by simpa using d8 e
   rw[ah F,I,m,z,PM];by_cases hc:r.contains 32=true
   .rw[af hc,af hc];rfl
   .rw[ah hc,ah hc];rfl
theorem amx{L:Flags.Locker}{ms:aF}(hk:L.kinds=ms.map bY)(f:sj ms){ps:c7}:(∀p∈ps,aY p)->L.rowIn (ps.map ê)=if (ps.map (jQ ms)).contains none=true then none else some ((ps.map (jQ ms)).map λo=>o.getD 0):=by
 induction ps with
 |nil=>exact @λ_=>Á
 |cons p ps I=>
  intro h;let I:=I λq m=>h q (aP _ m);delta Flags.Locker.rowIn at I⊢;rw[aX,HU,amu hk f (h p Ä),I,aX,AQ];cases e:jQ ms p with
  |none=>rfl
  |some k=>
   let j:((none:Option Nat)==some k)=false:=rfl;rw[j,PM];by_cases hc:(ps.map (jQ ms)).contains none=true
   .rw[af hc,af hc];rfl
   .rw[ah hc,ah hc];rfl
def entry_eq{L:Flags.Locker}{ms:aF}(hk:L.kinds=ms.map bY)(f:sj ms)(Z:∀m∈ms,m.role=0->iP m.name=true){w:LI}(J:aY w):
  ((Flags.entryIn ĩ).bind λx=>(L.rowIn x.1).map λr=>(r,x.2))=(il ms w).map λe=>(e.1,e.2.map B):=by
 delta Flags.entryIn il;rw[amw J];by_cases hc:w.contains 32=true
 .rw[af hc,af hc];let O:aY (w.take (w.idxOf 32)):=λx M=>J x (HV M);let U:aY (w.drop (w.idxOf 32+1)):=λx M=>J x (Y2 M);generalize w.take (w.idxOf 32)=G at O;generalize w.drop (w.idxOf 32+1)=p2 at U;rw[DZ];dsimp only;delta Flags.namesIn;rw[show Flags.cutAt 46 (G.map B)=(aJ 46 G).map ê from x8 46 Ù G O,amm U];let S:=qu 46 (l:=G) O;let F:=amx hk f S;delta w6 pF;rw[az];generalize aJ 46 G=ps at S F;dsimp only;rw[az];by_cases W:ps.length<=8
  .by_cases j:(ps.map (jQ ms)).contains none=true
   .rw[af (Or.inr j)];rw[af j] at F;dsimp only;split
    .rw[DZ];split
     .rw[DZ,F];rfl
     .rfl
    .rfl
   .let ju:(ps.map ê).all Flags.isName=true:=by
     rw[sr,kU];intro p Y;show Flags.isName Áe=true;rw[FQ (S p Y)];cases e:jQ ms p with
     |none=>exact absurd (by rw[DW];exact cb.mpr ⟨p,Y,e⟩) j
     |some k=>exact amv f Z e
    rw[af (show ps.length<=Flags.LONG/\(ps.map ê).all Flags.isName=true from⟨W,ju⟩),ah (λz:ps.length>8\/(ps.map (jQ ms)).contains none=true=>z.elim (λy=>by omega) j),DZ];rw[ah j] at F;dsimp only;by_cases I:m7 p2=true
    .rw[af I,af I,DZ,F];rfl
    .rw[ah I,ah I];rfl
  .rw[ah (λz:ps.length<=Flags.LONG/\(ps.map ê).all Flags.isName=true=>W z.1),af (show ps.length>8\/(ps.map (jQ ms)).contains none=true from Or.inl Å)];rfl
 .rw[ah hc,ah hc];rfl
theorem XU:∀r s:LN,r.length=s.length->HT.lexLt (nv r) (nv s)=Flags.before r s
 |[],[],_=>rfl
 |[],_::_,h=>by simp at h
 |_::_,[],h=>by simp at h
 |x::r,y::s,h=>by
  let I:=XU r s (À h);show HT.lexLt (((x:Nat):Int)::nv r) (((y:Nat):Int)::nv s)=(decide (x<y)||(x==y&&Flags.before r s));rw[HT.uL,I];by_cases e:x=y
  .subst e;rw[af rfl,f7 Å];simp
  .rw[ah Å,show(x==y)=false by simpa using e,lI,Bool.or_false,Zd];omega
def XW(r s:LN):tY r s=Flags.rowBefore r s:=by
 delta tY Flags.rowBefore;by_cases e:r.length=s.length
 .rw[af Å,XU r s e,f7 Å,show(r.length==s.length)=true by simp_all];simp
 .grind
def amy{L:Flags.Locker}{ms:aF}(hk:L.kinds=ms.map bY)(g:xh ms){row:LN}(sg:∀s∈row,jP ms s=true):kG ms row=L.canShow row:=by
 delta kG;rw[Om hk g (rows:=[row]) (λr hr=>by
  obtain rfl:r=row:=À hr
  exact sg),show L.canShowAll [row]=L.canShow row from rfl]
 cases L.canShow row <;> rfl
abbrev ni:=LN×LI
def l9(e:ni):Flags.Entry:=⟨e.1,e.2.map B⟩
def qO(j:List ni)(e:ni):Bool:=!(j.getLast?.any λp=>!tY p.1 e.1)
def ug(ms:aF):List ni->c7->Option (List ni)
 |past,[]=>some past
 |past,w::r=>match il ms w with
  |none=>none
  |some e=>if (kG ms e.1&&(qO past e&&decide (past.length<2048)))=true then ug ms (past++[e]) r else none
def amz{L:Flags.Locker}{ms:aF}(hk:L.kinds=ms.map bY)(f:sj ms)(hn:∀m∈ms,m.role=0->iP m.name=true)(z:LI)(r:c7):∀(i:Nat)(past:List ni),(∀w∈r,aY w)->
  (∀es,(z=[]/\ug ms past r=some es)->L.judgeEntries i Ád ((r++[z]).map ê)=.ok (es.map l9))/\((¬z=[]\/ug ms past r=none)->∃e,L.judgeEntries i Ád ((r++[z]).map ê)=.error e):=by
 induction r with
 |nil=>
  intro i past _;let G:L.judgeEntries i Ád ((([]:c7)++[z]).map ê)=if z.map B=[] then .ok Ád else .error (1,i):=rfl;rw[G];apply(λes h=>?_,λh=>?_)
  .rw[af (by rw[h.1];rfl),show past=es from aI h.2]
  .rcases h with h|h
   .exact(_,ah (λq=>h (À q)))
   .cases h
 |cons w r ih=>
  intro i past O;let I:=O w Ä;let g:=Oq f;obtain⟨y,J,M⟩:∃y J,(r++[z]).map ê=y::J:=by
   cases r with
   |nil=>exact(_,_,Á)
   |cons a b=>exact(_,_,Á)
  let G:L.judgeEntries i Ád (((w::r)++[z]).map ê)=match Flags.entryIn ĩ with
    |none=>.error (1,i)
    |some (n,m)=>match L.entryRow Ád n with
     |.error k=>.error (k,i)
     |.ok row=>L.judgeEntries (i+1) (past.map l9++[⟨row,m⟩]) ((r++[z]).map ê):=by
   rw[show((w::r)++[z]).map ê=w.map B::y::J from cJ (w.map B:: ·) M,M];rfl
  let j:=entry_eq hk f hn I;let eg:ug ms past (w::r)=match il ms w with
   |none=>none
   |some e=>if (kG ms e.1&&(qO past e&&decide (past.length<2048)))=true then ug ms (past++[e]) r else none:=rfl
  rw[G,eg];cases e1:Flags.entryIn ĩ with
  |none=>
   rw[e1] at j;let F:il ms w=none:=by
    cases e:il ms w with
    |none=>rfl
    |some x=>rw[e] at j;cases j
   rw[F];exact(λes h=>(by cases h.2),λ_=>⟨_,Á⟩)
  |some x=>
   let(n,m):=x;rw[e1,DZ] at j;dsimp only at j⊢;delta Flags.Locker.entryRow;cases e3:L.rowIn n with
   |none=>
    rw[e3] at j;let F:il ms w=none:=by
     cases e:il ms w with
     |none=>rfl
     |some x=>rw[e] at j;cases j
    rw[F];exact(λes h=>(by cases h.2),λ_=>⟨_,Á⟩)
   |some row=>
    rw[e3] at j;cases F:il ms w with
    |none=>rw[F] at j;cases j
    |some e=>
     rw[F] at j;let j:=aI j;let wY:=cJ Prod.fst j;let Y:=cJ Prod.snd j;subst wY Y;let j7:=(NC F).2;let Z:=amy hk g (row:=e.1) λs hs=>(j7 s hs).2;let el:((past.map l9).getLast?.any λ(p:Flags.Entry)=>!Flags.rowBefore p.row e.1)=!qO past e:=by
      delta qO;rw[Qa,List.getLast?_map];cases past.getLast? with
      |none=>rfl
      |some p=>
       show(!Flags.rowBefore p.1 e.1)=!tY p.1 e.1;rw[XW]
     let em:(past.map l9).length=past.length:=az ..;dsimp only;rw[<-Z,el,em];let(U,W):=ih (i+1) (past++[e]) λv hv=>O v (aP _ hv);rw[bZ,show[e].map l9=[⟨e.1,e.2.map B⟩] from rfl] at U W;cases hcan:kG ms e.1 with
     |false=>
      rw[af (rfl:false=false),lI,ah eC];exact(λes h=>(by cases h.2),λ_=>⟨_,Á⟩)
     |true=>
      rw[ah (by decide:¬(true=false)),ma];cases hnx:qO past e with
      |false=>
       rw[af (by decide:(!false)=true),lI,ah eC];exact(λes h=>(by cases h.2),λ_=>⟨_,Á⟩)
      |true=>
       rw[ah (by decide:¬(!true)=true),ma];by_cases S:past.length<2048
       .rw[ah (show ¬Flags.ENTRIES<=past.length from λq=>by let:(2048:Nat)<=past.length:=q;omega),eP S,af rfl];exact(U,W)
       .rw[af (show Flags.ENTRIES<=past.length from by show(2048:Nat)<=past.length;omega),f7 S,ah eC];exact(λes h=>(by cases h.2),λ_=>⟨_,Á⟩)
def uh:List ni->List ni->Bool
 |_,[]=>true
 |past,e::es=>qO past e&&uh (past++[e]) es
def amB(ms:aF)(r:c7):∀(j:List ni),ug ms j r=match iI ms r with
  |none=>none
  |some es=>if (es.all (λe=>kG ms e.1)&&(uh j es&&decide (j.length+es.length<=2048\/es=[])))=true then some (j++es) else none:=by
 induction r with
 |nil=>
  intro j;show some j=if _ then some (j++[]) else none;rw[jV,af];simp[uh]
 |cons w r M=>
  intro j;delta ug iI;cases e1:il ms w with
  |none=>
   cases iI ms r <;> rfl
  |some e=>
   dsimp only;rw[M (j++[e])];cases e2:iI ms r with
   |none=>
    split <;> rfl
   |some es=>
    dsimp only;rw[so,show uh j (e::es)=(qO j e&&uh (j++[e]) es) from rfl,sv,show[e]++es=e::es from rfl,lJ,show[e].length=1 from rfl,dc (a:=e) (as:=es)];let hd:(decide (j.length+(es.length+1)<=2048\/e::es=[]))=(decide (j.length<2048)&&decide (j.length+1+es.length<=2048\/es=[])):=by
     rw[pO,iU,lL,lL,lL];constructor
     .rintro (h|h)
      .exact(by omega,Or.inl Å)
      .cases h
     .rintro⟨O,h2⟩;rcases h2 with h2|h2
      .exact Or.inl Å
      .subst h2;exact Or.inl (by simp only[sk];omega)
    rw[hd];generalize kG ms e.1=m;generalize es.all (λe=>kG ms e.1)=z;generalize qO j e=F;generalize uh (j++[e]) es=G;generalize decide (j.length<2048)=I;generalize decide (j.length+1+es.length<=2048\/es=[])=J;cases m <;> cases z <;> cases F <;> cases G <;> cases I <;> cases J <;> rfl
theorem amC(es:List ni):∀(j:List ni)(p:ni),uh (j++[p]) es=((p::es).zip es).all λq=>tY q.1.1 q.2.1:=by
 induction es with
 |nil=>exact @λj p=>Á
 |cons e es I=>
  intro j p;let I:=I (j++[p]) e;show(qO (j++[p]) e&&uh (j++[p]++[e]) es)=_;rw[I,DN,so];congr 1;delta qO;rw[List.getLast?_concat];show(!(!tY p.1 e.1))=_;rw[Qa]
theorem amD(es:List ni):uh [] es=qL (es.map (·.1)):=by
 cases es with
 |nil=>rfl
 |cons e es=>
  show(qO [] e&&uh ([]++[e]) es)=_;rw[amC];delta qL;rw[show qO [] e=true from rfl,ma,aX,List.drop_succ_cons,List.drop_zero,<-aX,List.zip_map,sr];rfl
theorem amE{ms:aF}{r:c7}:∀{es:List ni},iI ms r=some es->es.length=r.length:=by
 induction r with
 |nil=>
  intro es h;rw[<-aI h];rfl
 |cons w r I=>
  intro es h;delta iI at h;cases e1:il ms w with
  |none=>rw[e1] at h;cases iI ms r <;> cases h
  |some e=>
   cases e2:iI ms r with
   |none=>rw[e1,e2] at h;cases h
   |some j=>
    rw[e1,e2] at h;rw[<-aI h,dc,dc,I e2]
theorem amF{ms:aF}(nm:LI)(r:c7):(if r.length<=2048 then Dg ms nm (iI ms r) else none)=(ug ms [] r).map λes=>(nm,es):=by
 rw[amB];cases e:iI ms r with
 |none=>
  show(if r.length<=2048 then none else none)=none;simp
 |some es=>
  let j:=amE e;dsimp only;rw[amD,show([]:List ni).length+es.length=es.length by simp,j];show(if r.length<=2048 then (if (qL (es.map (·.1))&&(es.map (·.1)).all (kG ms))=true then some (nm,es) else none) else none)=Option.map _ (if _ then some ([]++es) else none);grind
def amG{L:Flags.Locker}{nm:LI}{ms:aF}(hk:L.kinds=ms.map bY)(GG:L.name=nm.map B)(S:aY nm)(f:sj ms)(hn:∀m∈ms,m.role=0->iP m.name=true){b:LI}(h:aY b):
  (∀y,jA nm ms b=some y->L.judgeBook ϛ=.ok ⟨y.1.map B,y.2.map l9⟩)/\(jA nm ms b=none->∃e,L.judgeBook ϛ=.error e):=by
 let O:Flags.cutAt 10 ϛ=(aJ 10 b).map ê:=x8 10 Ù b h;let G:=qu 10 (l:=b) h;obtain⟨ls,z,ew⟩:∃ls z,aJ 10 b=ls++[z]:=by
  rcases qx (aJ 10 b) with e|⟨r,x,e⟩
  .exact absurd e (lZ 10 b)
  .exact(r,x,e)
 let hw:jL b=if z=[] then some ls else none:=by
  delta jL;rw[ew,show(ls++[z]).getLastD []=z by simp,aqL]
 rw[ew] at O G;delta jA;rw[hw]
 match ls,O,G with
 |[],O,G=>
  let Y:book1 nm ms (if z=[] then some [] else none)=none:=by split <;> rfl
  rw[Y];apply(λy j=>(by cases j),λ_=>⟨(1,0),?_⟩);delta Flags.Locker.judgeBook;rw[O];rfl
 |[l],O,G=>
  let Y:book1 nm ms (if z=[] then some [l] else none)=none:=by split <;> rfl
  rw[Y];apply(λy j=>(by cases j),λ_=>?_);delta Flags.Locker.judgeBook;rw[O];show ∃e,(match Flags.wordName (Flags.ascii "book") ĸ with
   |none=>(Except.error (1,0):Except Flags.Fault Flags.Book)
   |some n=>Except.error (1,1))=Except.error e
  cases Flags.wordName (Flags.ascii "book") ĸ with
  |none=>exact(_,Á)
  |some n=>exact(_,Á)
 |l::fo::r,O,G=>
  let M:=G l Ä;let XX:=G fo Ä;let W:∀w∈r,aY w:=λw hw=>G w (by simp[hw]);let ej:L.judgeBook ϛ=match (fq (codes "book") l).map (λn=>n.map B) with
    |none=>.error (1,0)
    |some n=>match (fq (codes "for") fo).map (λn=>n.map B) with
     |none=>.error (1,1)
     |some o=>if o≠L.name then .error (2,1) else (L.judgeEntries 2 [] ((r++[z]).map ê)).map λ(l:List Flags.Entry)=>(⟨n,l⟩:Flags.Book):=by
   rw[<-XJ "book" "book" Äm Ê M,<-XJ "for" "for" Äm Ê XX];delta Flags.Locker.judgeBook;rw[O];let J:((r++[z]).map ê).isEmpty=false:=by
    cases r <;> rfl
   show(match Flags.wordName (Flags.ascii "book") ĸ with
    |none=>(Except.error (1,0):Except Flags.Fault Flags.Book)
    |some n=>if ((r++[z]).map (λ(w:LI)=>w.map B)).isEmpty=true then Except.error (1,1) else match Flags.wordName (Flags.ascii "for") (fo.map B) with
     |none=>Except.error (1,1)
     |some o=>if o≠L.name then Except.error (2,1) else (L.judgeEntries 2 [] ((r++[z]).map (λ(w:LI)=>w.map B))).map λ(l:List Flags.Entry)=>(⟨n,l⟩:Flags.Book))=_
   rw[J];cases Flags.wordName (Flags.ascii "book") ĸ with
   |none=>rfl
   |some n=>
    dsimp only;rw[ah eC]
  let eb:book1 nm ms (if z=[] then some (l::fo::r) else none)=if z=[] then (match fq (codes "book") l with
    |none=>none
    |some n=>if fq (codes "for") fo=some nm then (ug ms [] r).map λes=>(n,es) else none) else none:=by
   by_cases F:z=[]
   .rw[af F,af F];show(if r.length<=2048 then GC nm ms (fq (codes "book") l) (fq (codes "for") fo) r else none)=_;cases fq (codes "book") l with
    |none=>
     show(if r.length<=2048 then none else none)=none;split <;> rfl
    |some n=>
     dsimp only;rw[<-amF];show(if r.length<=2048 then (if fq (codes "for") fo=some nm then Dg ms n (iI ms r) else none) else none)=_;split <;> split <;> rfl
   .rw[ah F,ah F];rfl
  rw[ej,eb];let(j1,j2):=amz hk f hn z r 2 [] W;rw[lK] at j1 j2;cases e1:fq (codes "book") l with
  |none=>
   apply(λy j=>?_,λ_=>⟨_,Á⟩);split at j <;> cases j
  |some n=>
   cases e2:fq (codes "for") fo with
   |none=>
    apply(λy j=>?_,λ_=>⟨_,Á⟩);split at j
    .dsimp only at j;rw[ah (by intro q;cases q)] at j;cases j
    .cases j
   |some o=>
    let U:aY o:=by
     delta fq at e2;split at e2
     .rename_i a c ec;split at e2
      .rw[<-aI e2];exact qu 32 XX c (by rw[ec];simp)
      .cases e2
     .cases e2
    dsimp only[Option.map_some];by_cases Z:o=nm
    .subst Z;rw[ah (λq:o.map B≠L.name=>q GG.symm),af rfl];by_cases F:z=[]
     .rw[af F];cases eg:ug ms [] r with
      |none=>
       let(e,I):=j2 (Or.inr eg);exact(λy j=>(by cases j),λ_=>⟨e,by rw[I];rfl⟩)
      |some es=>
       let I:=j1 es ⟨F,eg⟩;apply(λy j=>?_,λj=>(by cases j));let j:(n,es)=y:=aI j;rw[<-j,I];rfl
     .rw[ah F];let(e,I):=j2 (Or.inl F);exact(λy j=>(by cases j),λ_=>⟨e,by rw[I];rfl⟩)
    .let J:o.map B≠L.name:=λq=>Z (wm U S (q.trans GG));rw[af J,ah (λq:some o=some nm=>Z (aI q))];apply(λy j=>?_,λ_=>⟨_,Á⟩);split at j <;> cases j
def ui(l:LI):Prop:=∀x∈l,0<=x/\x<=16
def Ov:Told->Prop
 |.side s l=>s<3/\iX l
 |.hoist k=>k<4
 |.shape k=>k<4
 |.row l=>l.length=4/\ui l
structure yJ(m:gj):Prop where
 cl:m.classes=[]\/iX m.classes
 sd:m.side<3
 dg:m.ak.length<=4
 fl:∀g∈m.ak,g.flags.length<=8
 ce:∀g∈m.ak,∀f∈g.flags,f.1<4/\ui f.2
def XZ(h:jJ signs part=some l):l.length=part.length/\∀x∈l,0<=x/\x<signs.length:=by
 delta jJ at h;grind
theorem amL(h:j0 w=some t):Ov t:=by
 delta j0 at h;cases j:dZ w with
 |some x=>
  rw[j] at h;let h:=(aI h).symm;subst h;delta HD.dZ at j;split at j
  .rename_i a b c G;split at j
   .cases e2:bj uX b with
    |none=>symm
    |some s=>
     cases e3:iw c with
     |none=>symm
     |some l=>
      rw[e2,e3] at j;let j:=(aI j).symm;subst j;apply(zU e2,?_);delta iw at e3;split at e3
      .rename_i hc;let(F,p2):=XZ e3;let m:ly.length=16:=by decide+kernel
       rw[m] at p2;exact(F.trans hc,p2)
      .symm
   .symm
  .symm
 |none=>
  rw[j] at h;cases e2:bj iE w with
  |some k=>
   rw[e2] at h;let h:=(aI h).symm;subst h;exact zU e2
  |none=>
   rw[e2] at h;cases e3:bj iF w with
   |some k=>
    rw[e3] at h;let h:=(aI h).symm;subst h;exact zU e3
   |none=>
    rw[e3] at h;cases e4:jZ w with
    |none=>symm
    |some l=>
     rw[e4] at h;let h:=(aI h).symm;subst h;apply(Ua e4,λx z=>?_);delta jZ at e4;split at e4
     .let:=(XZ e4).2 x z;let m:qt.length=17:=by decide+kernel
      omega
     .symm
theorem amM(h:Ov t):US t:=by
 cases t with
 |side s l=>exact h.2.1
 |hoist k=>trivial
 |shape k=>trivial
 |row l=>exact h.1
def amN{m:gj}(v:yJ m){t:Told}(g:Ov t)(h:dJ m t.sort=true):yJ (rL m t):=by
 let upd:∀(gs:List iO)(F:iO->iO),m.ak=gs->(∀x∈m.ak.getLast?,(F x).flags.length<=8/\∀f∈(F x).flags,f.1<4/\ui f.2)->yJ ⟨m.side,m.classes,m.ak.dropLast++(m.ak.getLast?.map F).toList⟩:=λgs F _ O=>by
  let S:∀y∈m.ak.dropLast++(m.ak.getLast?.map F).toList,y∈m.ak\/∃x,m.ak.getLast?=some x/\y=F x:=λy j=>by
   rcases gQ.mp j with j|j
   .exact Or.inl (A1 _ j)
   .cases e:m.ak.getLast? with
    |none=>rw[e] at j;cases j
    |some x=>
     rw[e] at j;exact Or.inr ⟨x,Á,À j⟩
  apply(v.cl,v.sd,?_,λy j=>?_,λy j=>?_)
  .show(m.ak.dropLast++(m.ak.getLast?.map F).toList).length<=4;let:=v.dg;rcases qx m.ak with e|⟨r,x,e⟩
   .rw[e];simp
   .rw[e] at this⊢;simp at this⊢;exact this
  .rcases S y j with h|⟨x,I,rfl⟩
   .exact v.fl y h
   .exact(O x I).1
  .rcases S y j with h|⟨x,I,rfl⟩
   .exact v.ce y h
   .exact(O x I).2
 cases t with
 |side s l=>exact(Or.inr g.2,g.1,v.dg,v.fl,v.ce)
 |hoist k=>
  let W:=TY h;apply(v.cl,v.sd,?_,λy j=>?_,λy j=>?_)
  .show(m.ak++[_]).length<=4;rw[lJ];exact W
  .rcases gQ.mp j with j|j
   .exact v.fl y j
   .obtain rfl:y=_:=by simpa using j
    exact dv _
  .rcases gQ.mp j with j|j
   .exact v.ce y j
   .obtain rfl:y=_:=by simpa using j
    intro f G;cases G
 |shape k=>
  apply upd _ _ Á λx I=>?_;let I:m.ak.getLast?=some x:=I;let J:=DS I;let Y:x.flags.length<8:=by
   let h:dJ m 2=true:=h;delta dJ at h;split at h
   .simp at h
   .split at h
    .simp at h
    .split at h
     .rename_i Z;exact absurd Z Ù
     .rw[I] at h;simpa using h
  apply(?_,λf G=>?_)
  .show(x.flags++[(k,[])]).length<=8;rw[lJ];exact Y
  .rcases gQ.mp G with G|G
   .exact v.ce x J f G
   .obtain rfl:f=_:=by simpa using G
    exact(g,λy j=>absurd j Ä)
 |row l=>
  apply upd _ _ Á λx I=>?_;let I:m.ak.getLast?=some x:=I;let J:=DS I;let M:=v.fl x J;let U:=v.ce x J;apply(?_,λf G=>?_)
  .show(x.flags.dropLast++(x.flags.getLast?.map λs=>(s.1,s.2++l)).toList).length<=8;rcases qx x.flags with e|⟨r,y,e⟩
   .rw[e];simp
   .rw[e] at M⊢;simp at M⊢;exact M
  .rcases gQ.mp G with G|G
   .exact U f (A1 _ G)
   .cases e:x.flags.getLast? with
    |none=>rw[e] at G;cases G
    |some y=>
     rw[e] at G;obtain rfl:f=_:=À G
     let j:=U y (DS e);exact(j.1,λz hz=>(gQ.mp hz).elim (j.2 z) (g.2 z))
def amO{m:gj}{s:Flags.PlateState}(r:z6 m s):(qA m=true->s.over=some (o9 m)/\m.classes≠[]/\∀g∈m.ak,∀f∈g.flags,f.2.length=16)/\(qA m=false->s.over=none):=by
 let(S,U,hd):=r;delta qA Flags.PlateState.over;cases U with
 |va F h2 G=>
  rw[FW G,Bool.not_false,P5,F,h2,Mx];delta lD;cases e:m.ak.getLast? with
  |none=>
   let:m.ak=[]:=by
    rcases qx m.ak with j|⟨r,x,j⟩
    .exact j
    .rw[j,ah4] at e;cases e
   rw[this];apply(λz=>(by cases z),λ_=>?_);cases s.head <;> rfl
  |some g=>
   let I:m.ak≠[]:=λz=>by rw[z] at e;cases e
   let hc:m.classes≠[]:=λz=>I (hd z);let J:m.ak.isEmpty=false:=À I
   rw[J,S,ah hc,Bool.not_false,ma];dsimp only[Option.map_some];let M:(jg g).flags.isEmpty=g.flags.isEmpty:=by
    delta jg;dsimp only;cases g.flags <;> rfl
   rw[M];apply(λz=>⟨?_,hc,G⟩,λz=>?_)
   .let z:g.flags.isEmpty=false:=by simpa using z
    rw[z,ah eC];rfl
   .let z:g.flags.isEmpty=true:=by simpa using z
    rw[z,af rfl]
 |opened gs a b fs k cs F h2 G O W Y Z=>
  rw[FX F O,Bool.not_true,yQ,yQ,h2];apply(λz=>(by cases z),λ_=>?_);cases s.head <;> rfl
def go_eq(z:LI)(ls:c7):∀(i:Nat)(m:gj)(s:Flags.PlateState),(∀w∈ls,aY w)->z6 m s->yJ m->
  (∀M,mQ i m ls=.ok M->∃s',z6 M s'/\yJ M/\Flags.plateLines i s ((ls++[z]).map ê)=Flags.plateLines (i+ls.length) s' [z.map B])/\(∀e,mQ i m ls=.error e->∃I,Flags.plateLines i s ((ls++[z]).map ê)=.error I):=by
 induction ls with
 |nil=>
  intro i m s _ r v;exact⟨λM h=>by
   let h:m=M:=by injection h
   subst h;exact(s,r,v,Á),λe h=>(by cases h)⟩
 |cons w ls U=>
  intro i m s G r v;obtain⟨y,j,F⟩:∃y j,(ls++[z]).map ê=y::j:=by
   cases ls with
   |nil=>exact(_,_,Á)
   |cons a b=>exact(_,_,Á)
  let O:Flags.plateLines i s (((w::ls)++[z]).map ê)=match Flags.plateLine ĩ with
    |none=>.error (1,i)
    |some x=>match s.line x with
     |none=>.error (2,i)
     |some t=>Flags.plateLines (i+1) t ((ls++[z]).map ê):=by
   rw[show((w::ls)++[z]).map ê=w.map B::y::j from cJ (w.map B:: ·) F,F];rfl
  rw[O,ah3 (G w Ä)];delta mQ;cases e1:j0 w with
  |none=>exact(λM h=>(by cases h),λe _=>⟨_,Á⟩)
  |some t=>
   let g:=amL e1;let(s1,s2):=ah5 r (amM g);dsimp only[Option.map_some];cases hm:dJ m t.sort with
   |false=>
    rw[ah eC,s2 hm];exact(λM h=>(by cases h),λe _=>⟨_,Á⟩)
   |true=>
    let(s',J,Z):=s1 hm;rw[af rfl,J];let(W,Y):=U (i+1) (rL m t) s' (λx S=>G x (aP _ S)) Z (amN v g hm);apply(λM h=>?_,Y);let(s3,a,b,c):=W M h;apply(s3,a,b,?_);rw[dc,show i+(ls.length+1)=i+1+ls.length by omega];exact c
structure Ow(m:gj):Prop where
 inv:yJ m
 cl:iX m.classes
 yp:∀g∈m.ak,∀f∈g.flags,f.2.length=16
def X0{p:LI}(h:aY p):(∀m,g7 p=.ok m->Flags.plateIn Áe=.ok (o9 m)/\Ow m)/\(∀e,g7 p=.error e->∃M,Flags.plateIn Áe=.error M):=by
 let W:Flags.cutAt 10 Áe=(aJ 10 p).map ê:=x8 10 Ù p h;let O:=qu 10 (l:=p) h;obtain⟨ls,z,j⟩:∃ls z,aJ 10 p=ls++[z]:=by
  rcases qx (aJ 10 p) with e|⟨r,x,e⟩
  .exact absurd e (lZ 10 p)
  .exact(r,x,e)
 let qS:p=[]->ls=[]/\z=[]:=λe=>by
  rw[e] at j;let j:[[]]=ls++[z]:=j;cases ls with
  |nil=>
   refine ų;simpa using j.symm
  |cons a b=>
   let:=cJ List.length j;simp at this
 let oJ:ls=[]->z=[]->p=[]:=λZ e2=>by
  rw[Z,e2] at j;cases p with
  |nil=>rfl
  |cons x r=>
   let j:(if x=10 then []::aJ 10 r else match aJ 10 r with|[]=>[[x]]|w::l=>(x::w)::l)=[[]]:=j;by_cases S:x=10
   .rw[af S] at j;injection j with _ j;exact absurd j (lZ 10 r)
   .rw[ah S] at j;cases e:aJ 10 r with
    |nil=>exact absurd e (lZ 10 r)
    |cons w l=>rw[e] at j;cases j
 rw[j] at W O;let em:g7 p=match mQ 0 ⟨0,[],[]⟩ ls with
   |.error e=>.error e
   |.ok m=>if p=[]\/z≠[] then .error (1,ls.length) else if qA m=true then .ok m else .error (2,ls.length):=by
  delta g7;rw[j,aqL,show(ls++[z]).getLastD []=z by simp]
  try rfl
 let ei:Flags.plateIn Áe=Flags.plateLines 0 ⟨none,[],none⟩ ((ls++[z]).map ê):=by
  delta Flags.plateIn;rw[W]
 rw[em,ei];let r0:z6 ⟨0,[],[]⟩ ⟨none,[],none⟩:=⟨rfl,.va rfl rfl (λg G=>absurd G Ä),λ_=>rfl⟩;let v0:yJ ⟨0,[],[]⟩:=⟨Or.inl rfl,by decide,by decide,λg G=>absurd G Ä,λg G=>absurd G Ä⟩;let(j1,j2):=go_eq z ls 0 _ _ (λw I=>O w (by simp[I])) r0 v0;cases eg:mQ 0 ⟨0,[],[]⟩ ls with
 |error e=>exact(λm F=>(by cases F),λ_ _=>j2 e eg)
 |ok m=>
  let(s',r',Y,M):=j1 m eg;rw[M,xq];let el:Flags.plateLines ls.length s' [z.map B]=if z.map B≠[]\/ls.length=0 then .error (1,ls.length) else match s'.over with
    |some z=>.ok z
    |none=>.error (2,ls.length):=rfl
  rw[el];let(o1,o2):=amO r';by_cases hc:p=[]\/z≠[]
  .let J:z.map B≠[]\/ls.length=0:=by
    rcases hc with hc|hc
    .exact Or.inr (by rw[(qS hc).1];rfl)
    .exact Or.inl (λq=>hc (À q))
   dsimp only;rw[af hc,af J];exact(λm F=>(by cases F),λ_ _=>⟨_,Á⟩)
  .let J:¬(z.map B≠[]\/ls.length=0):=by
    rintro (q|q)
    .exact hc (Or.inr λe=>q (by rw[e];rfl))
    .apply hc ?_;by_cases U:z=[]
     .exact Or.inl (oJ (PY.mp q) U)
     .exact Or.inr U
   dsimp only;rw[ah hc,ah J];cases I:qA m with
   |true=>
    let(a,b,c):=o1 I;rw[af rfl,a];apply(λm' F=>?_,λ_ F=>(by cases F));let F:m=m':=by injection F
    subst F;exact(Á,Y,Y.cl.resolve_left b,c)
   |false=>
    rw[ah eC,o2 I];exact(λm F=>(by cases F),λ_ _=>⟨_,Á⟩)
def X1(h:aY p)(e:g7 p=.ok m):G1 m:=by
 let(_,f):=(X0 h).1 m e;exact(f.cl.1,by let:=f.inv.dg;omega,λg j=>by let:=f.inv.fl g j;omega,f.yp)
def X2(l i:Nat):Flags.cell l i<16:=Nat.mod_lt _ Ù
def amP{classes look:LI}(hc:iX classes)(h:iX look){side:Nat}(hs:side=0\/side=1){i:Nat}(hi:i<16):(tu look classes side).getD i 0=((Flags.cell (Flags.seenFrom Ę side (eU look)) i:Nat):Int):=by
 let G:∀j,j<16->0<=look.getD j 0/\look.getD j 0<16:=λj m=>h.2 _ (getD_mem (by rw[h.1];exact m));let z:∀j,j<16->classes.getD j 0=((Flags.cell Ę j:Nat):Int):=λj m=>by
  let:=hc.2 _ (getD_mem (l:=classes) (i:=j) (by rw[hc.1];exact m));rw[Co hc m];omega
 delta Flags.seenFrom Flags.inLight tu;rw[FS _ hi,Nat.mod_eq_of_lt (X2 _ _)];rcases hs with hs|hs
 .rw[ah Å,af hs,iC,bz,Co h hi];let e:look[i]? =some (look.getD i 0):=by
   rw[iC,cY (by rw[h.1];exact hi)];rfl
  rw[e];let:=G i hi;exact z _ Å
 .rw[af hs,ah Å,iC,bz,P4 hi];delta Flags.behind;let F:=UY hi;rw[FS _ hi,Nat.mod_eq_of_lt (X2 _ _),show 4*(i/4)+(3-i%4)=rR i by delta rR;omega,Co h F];let:=G _ F;exact z _ Å
theorem amQ(P:Nat->Bool):∀n,((List.range n).filter P).foldl (λ(n i:Nat)=>n+2^i) 0<2^n/\∀i,i<n->(((List.range n).filter P).foldl (λ(n i:Nat)=>n+2^i) 0).testBit i=P i:=by
 intro n;induction n with
 |zero=>exact(by show 0<1;decide,λi hi=>absurd hi (Nat.not_lt_zero _))
 |succ n I=>
  let(j,h2):=I;rw[HZ,DT,P8];generalize ((List.range n).filter P).foldl (λ(n i:Nat)=>n+2^i) 0=m at j h2;let z:2^(n+1)=2^n+2^n:=by rw[P3];omega
  cases hp:P n with
  |false=>
   rw[xu,hp,ah eC];apply(by show m<_;omega,λi hi=>?_);rcases aqM (Nat.lt_succ_iff.mp hi) with q|q
   .exact h2 i q
   .rw[q,hp];exact DY j
  |true=>
   rw[xu,hp,af rfl];apply(by show m+2^n<_;omega,λi hi=>?_);show(m+2^n).testBit i=_;rw[Nat.add_comm];rcases aqM (Nat.lt_succ_iff.mp hi) with q|q
   .rw[aqF q];exact h2 i q
   .rw[q,hp,aqG,DY j];rfl
def amR(z:s.2.length=16)(hc:ui s.2)(hi:i<16):(iz s).cells.testBit i=!decide (s.2.getD i 0=16)/\(¬s.2.getD i 0=16->((Flags.cell (iz s).look i:Nat):Int)=s.2.getD i 0):=by
 let j:(s.2.map iY).getD i none=iY (s.2.getD i 0):=by
  symm
 let hr:=hc _ (getD_mem (l:=s.2) (i:=i) Å);apply(?_,λm=>?_)
 .show(((List.range 16).filter λ(i:Nat)=>((s.2.map iY).getD i none).isSome).foldl (λ(n i:Nat)=>n+2^i) 0).testBit i=_;rw[(amQ _ 16).2 i hi,j];delta iY;grind
 .show((Flags.cell (Flags.lookOf λ(i:Nat)=>((s.2.map iY).getD i none).getD 0) i:Nat):Int)=_;rw[FS _ hi,j];delta iY;grind
def amS(hc:iX classes)(hk:iX k.look)(hd:d=0\/d=1)(j:s.2.length=16)(hs:ui s.2):
  wR s (pb classes d k)=(((iz s).shape==3||(iz s).shape==(bY k).shape)&&Flags.sameIn (iz s).cells (Flags.seenFrom Ę d (bY k).look) (iz s).look):=by
 let z:((List.range s.2.length).all (wQ s.2 (tu k.look classes d)))=Flags.sameIn (iz s).cells (Flags.seenFrom Ę d (eU k.look)) (iz s).look:=by
  rw[j];delta Flags.sameIn;rw[pO,kU,kU];apply forall_congr' λi=>forall_congr' λhi=>?_;simp at hi;let(m,G):=amR j hs hi;rw[m,Qa];delta wQ;rw[amP hc hk hd hi];grind
 let F:wR s (pb classes d k)=if s.1≠3/\s.1≠k.shape then false else (List.range s.2.length).all (wQ s.2 (tu k.look classes d)):=rfl;rw[F,z];show _=((s.1==3||s.1==k.shape)&&Flags.sameIn (iz s).cells (Flags.seenFrom Ę d (eU k.look)) (iz s).look);grind
structure Dr(L:Flags.Locker)(ms:aF)(classes:LI)(d:Nat):Prop where
 hk:L.kinds=ms.map bY
 lk:∀k∈ms,iX k.look
 cl:iX classes
 d:d=0\/d=1
section
def amT(v:Àn d)(z:s.2.length=16)(hs:ui s.2)(f:Nat):(tw ş s).contains f=L.flagFits Ę d f (iz s):=by
 delta Flags.Locker.flagFits;by_cases j:f<ms.length
 .rw[Xx v.hk j];let m:ms.getD f fu∈ms:=by
   symm
  show _=(((iz s).shape==3||(iz s).shape==(bY Èq).shape)&&Flags.sameIn (iz s).cells (Flags.seenFrom Ę d (bY Èq).look) (iz s).look);rw[<-amS v.cl (v.lk _ m) v.d z hs];let e:(ms.map (pb classes d)).getD f (0,[])=pb classes d Èq:=by
   symm
  rw[pO,DW];delta tw;symm
 .let:L.kinds[f]? =none:=by
   rw[v.hk,bz,xp Å];rfl
  rw[this,<-Bool.not_eq_true,DW];delta tw;grind
theorem X3(v:Àn d):∀(fs:List (Nat×LI))(h:LN),(∀f∈fs,f.2.length=16/\ui f.2)->h.length=fs.length->L.flagsFit Ę d h (fs.map iz)=(List.range fs.length).all λi=>((fs.map (tw ş)).getD i []).contains (h.getD i 0)
 |[],[],_,_=>rfl
 |[],_::_,_,h=>by simp at h
 |_::_,[],_,h=>by simp at h
 |s::fs,f::h,hf,hl=>by
  let I:=X3 v fs h (λx j=>hf x (aP _ j)) (À hl);let hs:=hf s Ä;show(L.flagFits Ę d f (iz s)&&L.flagsFit Ę d h (fs.map iz))=_;rw[I,<-amT v hs.1 hs.2,dc,DO,so,sr];rfl
def X4(v:Àn d){fs:List (Nat×LI)}(j:∀f∈fs,f.2.length=16/\ui f.2){h:LN}{a:Nat}(m:a+fs.length<=h.length):yq a h (fs.map (tw ş))=L.flagsFit Ę d ((h.drop a).take fs.length) (fs.map iz):=by
 rw[X3 v fs _ j (by grind)];delta yq;grind
def amU(v:Àn d){g:iO}(m:∀f∈g.flags,f.2.length=16/\ui f.2){h:LN}(O:g.flags.length<=h.length):vc h g (yo ş g)=L.fits Ę d h (jg g):=by
 delta vc MM Flags.Locker.fits yo;let el:(jg g).flags.length=g.flags.length:=az ..;rw[el,pO,vD,vD];show _↔ ∃x,x∈List.range (h.length+1)/\((x==0||g.above)&&((x+g.flags.length==h.length||(g.below&&decide (x+g.flags.length<=h.length)))&&L.flagsFit Ę d ((h.drop x).take g.flags.length) (g.flags.map iz)))=true;constructor
 .rintro⟨i,hi,Y⟩;simp at hi;generalize ex:oo g.below (h.length-g.flags.length)+i=x at Y;let j:x<=tF g.above (h.length-g.flags.length):=by omega
  let J:oo g.below (h.length-g.flags.length)<=x:=by omega
  let z:x+g.flags.length<=h.length:=by
   delta tF at j;grind
  apply(x,AV.mpr Å,?_);rw[X4 v m z] at Y;rw[Y,P5,iU];constructor
  .delta tF at j;grind
  .delta oo at J;grind
 .rintro⟨x,j,Y⟩;rw[iU,iU] at Y;let(M,h2,F):=Y;let z:x+g.flags.length<=h.length:=by
   grind
  let I:x<=tF g.above (h.length-g.flags.length):=by
   delta tF;grind
  let G:oo g.below (h.length-g.flags.length)<=x:=by
   delta oo;grind
  apply(x-oo g.below (h.length-g.flags.length),AV.mpr Å,?_);rw[show oo g.below (h.length-g.flags.length)+(x-oo g.below (h.length-g.flags.length))=x by omega,X4 v m z];exact F
theorem X5(v:Àn d):∀(hs:br)(I:List iO),(∀g∈I,∀f∈g.flags,f.2.length=16/\ui f.2)->hs.length=I.length->(∀(i:Nat)h g,hs[i]? =some h->I[i]? =some g->g.flags.length<=h.length)->mZ hs I (qG ms classes d I)=L.allFit Ę d hs (I.map jg)
 |[],[],_,_,_=>rfl
 |[],_::_,_,h,_=>by simp at h
 |_::_,[],_,h,_=>by simp at h
 |h::hs,g::I,hf,hl,hw=>by
  let z:=X5 v hs I (λx m=>hf x (aP _ m)) (À hl) (λi a b j h2=>hw (i+1) a b j h2);show(vc h g (yo ş g)&&mZ hs I (qG ms classes d I))=(L.fits Ę d h (jg g)&&L.allFit Ę d hs (I.map jg));rw[z,amU v (hf g Ä) (hw 0 h g rfl rfl)]
end
theorem amV:∀(cs rows:br),cs.foldl pG rows=rows.flatMap λr=>(Flags.rowsFrom cs).map (r++ ·):=by
 intro cs;induction cs with
 |nil=>
  intro rows;show rows=rows.flatMap λr=>[r++[]];induction rows with
  |nil=>rfl
  |cons a l I=>rw[DU,<-I,jV];rfl
 |cons c cs I=>
  intro rows;rw[DV,I];delta pG;rw[List.flatMap_assoc];congr 1;funext r;rw[List.flatMap_map];show _=(c.flatMap λ(x:Nat)=>(Flags.rowsFrom cs).map λ(y:LN)=>x::y).map (r++ ·);rw[List.map_flatMap];congr 1;funext x;rw[cV];congr 1;funext y;simp
theorem X6:∀(cs:br),[]∈cs->Flags.rowsFrom cs=[]
 |c::cs,h=>by
  show(c.flatMap λ(x:Nat)=>(Flags.rowsFrom cs).map λ(y:LN)=>x::y)=[];rcases a0.mp h with h|h
  .rw[<-h];rfl
  .rw[X6 cs h];exact List.flatMap_eq_nil_iff.mpr λ_ _=>Á
def X7(cs:br):vo cs=Flags.rowsFrom cs:=by
 delta vo;split
 .rename_i h;rw[X6 cs (DW.mp h)]
 .delta lG;rw[amV];simp
theorem X8(cs:br):∀(x:LN),x∈Flags.rowsFrom cs->x.length=cs.length/\∀(i:Nat)n c,x[i]? =some n->cs[i]? =some c->n∈c:=by
 induction cs with
 |nil=>
  intro x h;let h:x∈[[]]:=h;simp at h;subst h;exact(Á,λi n c h=>(by simp at h))
 |cons c cs J=>
  intro x h;let h:=h;let(a,G,h):=kZ.mp h;let(y,I,rfl):=cb.mp h;let(F,h2):=J y I;apply(by rw[dc,dc,F],λi n z j m=>?_);cases i with
  |zero=>
   simp at j;simp at m;rw[<-j,<-m];exact G
  |succ i=>exact h2 i n z (À j) (À m)
section
variable{L:Flags.Locker}{B:Flags.Book}{ms:aF}{rows:br}
def amW(j:B.entries.map Flags.Entry.row=rows)(g:iO):qN rows g=B.may (jg g):=by
 delta qN Flags.Book.may;let z:rows.length=B.entries.length:=by rw[<-j,az]
 rw[z];apply Zg;intro i hi;let hi:i<B.entries.length:=À hi
 let el:m9 rows i=(B.entries[i]).row.length:=by
  delta m9;rw[<-j,iC,bz,cY hi];rfl
 let m:(jg g).flags.length=g.flags.length:=az ..;rw[cY hi];dsimp only;rw[m];delta As;rw[el];show _=if (g.above||g.below)=true then _ else _;cases h:(g.above||g.below) with
 |true=>
  rw[af rfl,ma,pO,PL,Qb,Qb,Qb];omega
 |false=>
  rw[ah eC,lI,Bool.or_false,pO,Qb,uv]
def X9(j:B.entries.map Flags.Entry.row=rows)(I:List iO):jR rows I=(I.map jg).map B.may:=by
 delta jR;rw[cV];apply kY;intro g _;exact amW j g
def amX(j:B.entries.map Flags.Entry.row=rows)(m:gj):ua rows m.ak=B.inDoubt (o9 m):=by
 delta ua hJ Flags.Book.inDoubt;rw[X9 j,cV];rfl
theorem Yb(j:B.entries.map Flags.Entry.row=rows)(x:LN):(∀n∈x,n<rows.length)->B.rowsOf x=some Áu:=by
 induction x with
 |nil=>exact @λ_=>Á
 |cons n x I=>
  intro h;let I:=I λz F=>h z (aP _ F);let m:n<B.entries.length:=by
   let:=h n Ä;rw[<-j,az] at this;exact this
  delta Flags.Book.rowsOf at I⊢;rw[HU,I,cY m];delta hZ;rw[aX,<-j];congr 2;rw[iC,bz,cY m];rfl
def Ox(h:n∈qN rows g):n<rows.length/\g.flags.length<=(rows.getD n []).length:=by
 delta qN at h;let(j,h2):=kJ.mp h;apply(by simp_all,?_);delta As m9 at h2;grind
def amY(hk:L.kinds=ms.map bY)(g:xh ms)(lk:∀k∈ms,iX k.look)(O:B.entries.map Flags.Entry.row=rows)(sg:AI ms rows)(F:Ow m):(r9 ms rows m).map (·.1)=L.readings B (o9 m):=by
 delta r9 Flags.Locker.readings;let ec:(o9 m).hoists.map B.may=jR rows m.ak:=(X9 O m.ak).symm;rw[ec,X7];let gW:∀x∈Flags.rowsFrom (jR rows m.ak),(vp ms rows m.ak (ng ms m) x).map (·.1)=if ((Flags.sides (o9 m).side).any λ(d:Nat)=>(L.mayFrom B (o9 m) x d).isSome)=true then some x else none:=λx hx=>by
  let(ot,gE):=X8 _ _ hx;let gS:(jR rows m.ak).length=m.ak.length:=az ..;let Z:∀(i:Nat)n,x[i]? =some n->∃gl,m.ak[i]? =some gl/\n∈qN rows gl:=λi n e=>by
   let hi:i<m.ak.length:=by
    grind
   apply(_,cY hi,gE i n _ e ?_);delta jR;symm
  let bW:∀n∈x,n<rows.length:=λn W=>by
   let(i,hi,e):=pQ W;let(gl,_,h):=Z i n (by grind);exact(Ox h).1
  let I:AI ms Áu:=λr hr=>by
   let(n,W,rfl):=cb.mp hr;apply sg _ ?_;symm
  let hd:=Om hk g I;let l7:=λhs h=>Wr (ms:=ms) (rows:=hZ rows x) (hs:=hs) h;delta vp;rw[hd];delta Flags.Locker.mayFrom;rw[Yb O x bW];show _=if ((Flags.sides (o9 m).side).any λ(d:Nat)=>(if L.canShowAll Áu=true/\L.allFit Èr d (L.displayed Áu) (m.ak.map jg)=true then some (L.displayed Áu) else none).isSome)=true then some x else none;by_cases j:L.canShowAll Áu=true
  .rw[af j] at hd;rw[af j];let G:=l7 _ hd;generalize L.displayed Áu=hs at G;let yK:∀d,d=0\/d=1->mZ hs m.ak ϧ=L.allFit Èr d hs (m.ak.map jg):=λd hd=>by
    apply X5 ⟨hk,lk,F.cl,hd⟩ hs m.ak (λgl Y f S=>⟨F.yp gl Y f S,(F.inv.ce gl Y f S).2⟩) ?_ λi h gl h1 h2=>?_
    .let:=cJ List.length G;rw[az,az] at this;delta hZ at this;symm
    .let z:(hs.map List.length)[i]? =some h.length:=by rw[bz,h1];rfl
     rw[G,bz] at z;delta hZ at z;rw[bz] at z;cases ex:x[i]? with
     |none=>symm
     |some n=>
      rw[ex] at z;let z:(rows.getD n []).length=h.length:=À z
      let(gl',J,M):=Z i n ex;rw[h2] at J;rw[<-aI J] at M;let:=(Ox M).2;omega
   let Na:((Flags.sides (o9 m).side).any λ(d:Nat)=>(if True/\L.allFit Èr d hs (m.ak.map jg)=true then some hs else none).isSome)=(Flags.sides (o9 m).side).any λd=>mZ hs m.ak ϧ:=by
    rw[pO,vD,vD];apply exists_congr λd=>and_congr_right λU=>?_;let hd:d=0\/d=1:=by
     let hs:=F.inv.sd;let U:d∈(if m.side=2 then [0,1] else [m.side]):=U;grind
    grind
   let ht:=eq_true j;simp only[ht];rw[Na];let es:t9 (ng ms m) m.ak hs=(Flags.sides (o9 m).side).filter λd=>mZ hs m.ak ϧ:=by
    delta t9 ng;rw[yS,cV];exact List.map_id _
   rw[es];generalize Flags.sides (o9 m).side=ss;by_cases hz:(ss.filter λd=>mZ hs m.ak ϧ)=[]
   .symm
   .symm
  .symm
 generalize Flags.rowsFrom (jR rows m.ak)=X at gW;induction X with
 |nil=>rfl
 |cons x X ih=>
  grind
end
def am0(j:aY t)(h:gn t=some x):∀k∈x.2,iX k.look:=λk hk=>((On j h).kv k hk).lk
def am1(j:aY line)(h:fq w line=some n):aY n:=by
 delta fq at h;split at h
 .rename_i a c m;split at h
  .rw[<-aI h];exact qu 32 j c É
  .symm
 .cases h
def am2(j:aY t)(h:gn t=some x):aY x.1:=by
 delta gn at h;split at h
 .rename_i l r e;let m:aY l:=by
   delta jL at e;split at e
   .let e:=aI e;let:l∈(aJ 10 t).dropLast:=by rw[e];exact fG
    exact qu 10 j l (A1 _ this)
   .symm
  cases e1:fq (codes "locker") l with
  |none=>rw[e1,Cg] at h;cases h
  |some n=>
   cases e2:gO r with
   |none=>rw[e2,Cf] at h;cases h
   |some ms=>
    rw[e1,e2] at h;let h:(if (oa ms&&o7 ms)=true then some (n,ms) else none)=some x:=h;split at h
    .rw[<-aI h];exact am1 m e1
    .symm
 .cases h
theorem am3{ms:aF}{r:c7}:∀{es:List (LN×LI)},iI ms r=some es->AI ms (es.map (·.1)):=by
 induction r with
 |nil=>
  intro es h;rw[<-aI h];intro r hr;cases hr
 |cons l r I=>
  intro es h;delta iI at h;cases e1:il ms l with
  |none=>rw[e1] at h;cases h
  |some e=>
   cases e2:iI ms r with
   |none=>rw[e1,e2] at h;cases h
   |some j=>
    rw[e1,e2] at h;rw[<-aI h];intro row hr;rcases a0.mp hr with rfl|hr
    .exact λs hs=>((NC e1).2 s hs).2
    .exact I e2 row hr
def am4{nm:LI}{ms:aF}{b:LI}{y:LI×List (LN×LI)}(h:jA nm ms b=some y):AI ms (y.2.map (·.1)):=by
 delta jA book1 at h;split at h
 .split at h
  .delta GC at h;split at h
   .symm
   .split at h
    .delta Dg at h;split at h
     .rename_i es e;split at h
      .rw[<-aI h];exact am3 e
      .symm
     .symm
    .symm
  .symm
 .cases h
def AJ(x:LI×aF):Flags.Locker:=⟨x.1.map B,x.2.map bY⟩
def nj(y:LI×List (LN×LI)):Flags.Book:=⟨y.1.map B,y.2.map l9⟩
def Hi(y:LI×List (LN×LI)):(nj y).entries.map Flags.Entry.row=y.2.map (·.1):=by
 delta nj;rw[cV];rfl
def am5(J:aY t)(hb:aY b)(hp:aY p)(f:Flags.Locker->Flags.Book->Flags.Plate->br->Flags.Reply):
  (∀z,Ű p=some z->FlagsK9.ofAll ϲ ϛ Áe f=Flags.says z)/\
  (Ű p=none->∀x y m,gn t=some x->jA x.1 x.2 b=some y->g7 p=.ok m->Ow m/\FlagsK9.ofAll ϲ ϛ Áe f=f (AJ x) (nj y) (o9 m) ((r9 x.2 (y.2.map (·.1)) m).map (·.1))):=by
 delta refusal FlagsK9.ofAll;rw[az,az,az];let Z:Flags.LOOKED=65536:=rfl;rw[Z];by_cases G:65536<t.length\/65536<b.length\/65536<p.length
 .rw[af G,af G];exact(λz j=>by rw[<-aI j];rfl,λh=>(by cases h))
 .rw[ah G,ah G];let(l1,l2):=ahO J;cases el:gn t with
  |none=>
   let(e,F):=l2 el;rw[F];exact(λz j=>by rw[<-aI j];rfl,λh=>(by cases h))
  |some x=>
   rw[l1 x el];dsimp only;let lf:=On J el;let(U,W):=amG (L:=AJ x) (nm:=x.1) (ms:=x.2) rfl rfl (am2 J el) lf (amq el) hb;cases eb:jA x.1 x.2 b with
   |none=>
    let(e,F):=W eb;rw[show(⟨x.1.map B,x.2.map bY⟩:Flags.Locker)=AJ x from rfl,F];exact(λz j=>by rw[<-aI j];rfl,λh=>(by cases h))
   |some y=>
    rw[show(⟨x.1.map B,x.2.map bY⟩:Flags.Locker)=AJ x from rfl,U y eb];let(p1,p2):=X0 hp;cases ep:g7 p with
    |error e=>
     let(e',F):=p2 e ep;rw[F];exact(λz j=>by rw[<-aI j];rfl,λh=>(by cases h))
    |ok m=>
     let(q1,S):=p1 m ep;rw[q1];dsimp only;let Y:=amX (Hi y) m;rw[show(⟨y.1.map B,y.2.map l9⟩:Flags.Book)=nj y from rfl,<-Y,show Flags.DOUBT=1024 from rfl];by_cases hd:1024<ua (y.2.map (·.1)) m.ak
     .rw[af hd,af hd];exact(λz j=>by rw[<-aI j];rfl,λh=>(by cases h))
     .rw[ah hd,ah hd];apply(λz j=>(by cases j),λ_ x' y' m' M I O=>?_);let M:=aI M;subst M;rw[eb] at I;let I:=aI I;subst I;let O:m=m':=by injection O
      subst O;apply(S,?_);rw[amY (L:=AJ x) (B:=nj y) rfl (Oq lf) (am0 J el) (Hi y) (am4 eb) S]
def Yc{ms:aF}{rows:br}{m:gj}:∀z∈r9 ms rows m,z.1.length=m.ak.length/\∀n∈z.1,n<rows.length:=λz S=>by
 let(x,G,e):=HJ.mp S;rw[X7] at G;let(F,M):=X8 _ x G;delta jR at F;rw[az] at F;let h2:∀n∈x,n<rows.length:=λn O=>by
  let(j,J,e):=pQ O;let I:=M j n (qN rows m.ak[j]) (by rw[cY J,e]) (by delta jR;rw[bz,cY Å];rfl);exact(Ox I).1
 delta vp at e;split at e
 .split at e
  .cases e
  .rw[<-aI e];exact(F,h2)
 .cases e
theorem Yd:∀l:LN,Flags.before l l=false
 |[]=>rfl
 |x::r=>by
  delta Flags.before;rw[Yd r];simp
theorem Ye:∀{a b c:LN},Flags.before a b=true->Flags.before b c=true->Flags.before a c=true
 |x::r,y::s,z::t,j,h2=>by
  delta Flags.before at j h2⊢;simp only[PL,iU,lL,uv] at j h2⊢;rcases j with j|⟨j,m⟩
  .rcases h2 with h2|⟨h2,_⟩
   .exact .inl Å
   .exact .inl Å
  .rcases h2 with h2|⟨h2,F⟩
   .exact .inl Å
   .exact .inr ⟨by omega,Ye m F⟩
def am6{a b:LN}(h:Flags.rowBefore a b=true):a≠b:=λe=>by
 subst e;delta Flags.rowBefore at h;rw[Yd] at h;simp at h
def am7{a b c:LN}(j:Flags.rowBefore a b=true)(h2:Flags.rowBefore b c=true):Flags.rowBefore a c=true:=by
 delta Flags.rowBefore at j h2⊢;simp only[PL,iU,lL,uv] at j h2⊢;rcases j with j|⟨j,m⟩
 .rcases h2 with h2|⟨h2,_⟩
  .exact .inl Å
  .exact .inl Å
 .rcases h2 with h2|⟨h2,z⟩
  .exact .inl Å
  .exact .inr ⟨by omega,Ye m z⟩
theorem am8:∀{l:br}{a:LN},qL (a::l)=true->(∀s∈l,Flags.rowBefore a s=true)/\qL l=true:=by
 intro l;induction l with
 |nil=>exact λ_=>⟨λs hs=>(by cases hs),Á⟩
 |cons b r I=>
  intro a h;let h:(tY a b&&qL (b::r))=true:=h;let(j,h2):=sy.mp h;rw[XW] at j;apply(λs hs=>?_,h2);rcases a0.mp hs with rfl|hs
  .exact j
  .exact am7 j ((I h2).1 s hs)
theorem am9:∀{es:List Flags.Entry},qL (es.map Flags.Entry.row)=true->∀{n:Nat}{e:Flags.Entry},es[n]? =some e->es.find? (λx=>x.row==e.row)=some e:=by
 intro es;induction es with
 |nil=>
  intro _ n e h;simp at h
 |cons a l I=>
  intro h n e j;rw[aX] at h;let(m,h2):=am8 h;cases n with
  |zero=>
   rw[<-aI j];exact aqH Ä
  |succ n=>
   let j:l[n]? =some e:=j;rw[Ze (by let:=am6 (m e.row (P2 (bI j)));simpa using this)];exact I h2 j
def Yg{nm:LI}{ms:aF}{b:LI}{y:LI×List (LN×LI)}(h:jA nm ms b=some y):qL (y.2.map (·.1))=true/\∀e∈y.2,m7 e.2=true:=by
 let m:∀{r:c7}{es:List (LN×LI)},iI ms r=some es->∀e∈es,m7 e.2=true:=by
  intro r;induction r with
  |nil=>
   intro es h e j;rw[<-aI h] at j;cases j
  |cons l r I=>
   intro es h e j;delta iI at h;cases e1:il ms l with
   |none=>rw[e1] at h;cases h
   |some F=>
    cases e2:iI ms r with
    |none=>rw[e1,e2] at h;cases h
    |some G=>
     rw[e1,e2] at h;rw[<-aI h] at j;rcases a0.mp j with rfl|j
     .delta il at e1;split at e1
      .split at e1
       .cases e1
       .split at e1
        .rename_i z;rw[<-aI e1];exact z
        .cases e1
      .cases e1
     .exact I e2 e j
 delta jA book1 at h;split at h
 .split at h
  .delta GC at h;split at h
   .cases h
   .split at h
    .delta Dg at h;split at h
     .rename_i es e;split at h
      .rename_i hc;rw[<-aI h];exact((sy.mp hc).1,m e)
      .cases h
     .cases h
    .cases h
  .cases h
 .cases h
def Yh{m:LI}(h:m7 m=true):m.length<=64/\aY m:=by
 delta m7 at h;simp only[iU,Bool.not_eq_true',Bool.or_eq_false_iff,A2,kU,lL] at h;exact(by omega,λx j=>by let:=h.2 x j;omega)
def ana{m:LI}(h:aY m):bj ť m=none↔ ¬(m.map B=Flags.SPELL\/m.map B=Flags.MORE):=by
 let j:m.map B=Flags.SPELL↔m=codes "spell":=eqB h Äm Ê;let F:m.map B=Flags.MORE↔m=codes "more":=eqB h Äm Ê;rw[j,F];delta bj;rw[aqK];simp only[aX,lK,a0,lO,lQ,forall_eq_or_imp,forall_eq,A2,not_or];exact(λ⟨a,b⟩=>⟨λz=>a z.symm,λz=>b z.symm⟩,λ⟨a,b⟩=>⟨λz=>a z.symm,λz=>b z.symm⟩)
def anb{L:Flags.Locker}{y:LI×List (LN×LI)}(ho:qL (y.2.map (·.1))=true)(hm:∀e∈y.2,m7 e.2=true):∀(ns:LN)(i:Nat)(t:LI),aY t->(∀n∈ns,n<y.2.length)->
  (∀u,(ns.map λn=>(y.2.map (·.2)).getD n []).foldl si (some t)=some u->L.tellFrom (nj y) i (t.map B,false) (hZ (y.2.map (·.1)) ns)=.ok (u.map B)/\aY u)/\
  ((ns.map λn=>(y.2.map (·.2)).getD n []).foldl si (some t)=none->∃k,L.tellFrom (nj y) i (t.map B,false) (hZ (y.2.map (·.1)) ns)=.error k):=by
 intro ns;induction ns with
 |nil=>
  intro i t I _;apply(λu e=>?_,λe=>(by cases e));rw[<-aI e];exact(Á,I)
 |cons n r ih=>
  intro i t I U;let tP:=U n fG;let F:y.2[n]? =some y.2[n]:=cY tP;let J:=hm _ (bI F);let O:Flags.saidOf (nj y) ((y.2.map (·.1)).getD n [])=some (y.2[n].2.map B):=by
   let hr:(y.2.map (·.1)).getD n []=y.2[n].1:=by rw[iC,bz,F];rfl
   let hf:(nj y).entries[n]? =some (l9 y.2[n]):=by delta nj;rw[bz,F];rfl
   delta Flags.saidOf;rw[hr];let:=am9 (es:=(nj y).entries) (by rw[Hi];exact ho) hf;rw[show y.2[n].1=(l9 y.2[n]).row from rfl,this];rfl
  let hg:(y.2.map (·.2)).getD n []=y.2[n].2:=by rw[iC,bz,F];rfl
  rw[aX,DV,hg,show hZ (y.2.map (·.1)) (n::r)=(y.2.map (·.1)).getD n []::hZ (y.2.map (·.1)) r from rfl];generalize y.2[n].2=m at J O;let(m1,M):=Yh J;let S:=ana M;let Z:L.tellFrom (nj y) i (t.map B,false) ((y.2.map (·.1)).getD n []::hZ (y.2.map (·.1)) r)=match (L.said (nj y) ((y.2.map (·.1)).getD n [])).bind (Flags.behindText ϲ false) with
    |some z=>L.tellFrom (nj y) (i+1) z (hZ (y.2.map (·.1)) r)
    |none=>.error i:=rfl
  rw[Z];delta Flags.Locker.said;rw[O];dsimp only;by_cases hc:bj ť m=none
  .let G:si (some t) m=some (if t=[] then m else t++32::m):=af hc;rw[G,ah (S.mp hc)];let W:(if t=[] then m else t++32::m).map B=if t.map B=[] then m.map B else t.map B++32::m.map B:=by
    cases t with
    |nil=>rfl
    |cons x s=>rw[ah Ä,ah Ä,bZ,aX];rfl
   let Y:aY (if t=[] then m else t++32::m):=by
    split
    .exact M
    .intro x j;rcases gQ.mp j with j|j
     .exact I x j
     .rcases a0.mp j with rfl|j
      .omega
      .exact M x j
   let:=ih (i+1) _ Y λk hk=>U k (aP _ hk);rw[W] at this;exact this
  .let G:si (some t) m=none:=ah hc;rw[G,af (Decidable.not_not.mp λz=>hc (S.mpr z)),WZ];exact(λu e=>(by cases e),λ_=>⟨i,Á⟩)
theorem Yi:∀{l:LI},aY l->(l.map B).map (λ(b:UInt8)=>(b.toNat:Int))=l
 |[],_=>rfl
 |x::l,h=>by
  rw[aX,aX,Yi λz j=>h z (aP _ j),Ff (h x fG),Y1 (h x fG).1]
def anc(i:Nat)(W:aY t)(S:aY b)(U:aY p):
  (∀z,Ű p=some z->PyWqbada.says ((i:Nat):Int) t b p=[z])/\
  (Ű p=none->∀x y m,gn t=some x->jA x.1 x.2 b=some y->g7 p=.ok m->PyWqbada.says ((i:Nat):Int) t b p=yD ((r9 x.2 (y.2.map (·.1)) m).map (·.1)) (y.2.map (·.2)) i):=by
 let F:PlateNeutral.callOf [[7,((i:Nat):Int)],t,b,p]=some (.says ϲ ϛ Áe i):=by
  show(PlateNeutral.text? t >>= λa=>PlateNeutral.text? b >>= λc=>PlateNeutral.text? p >>= λd=>PlateNeutral.nat? ((i:Nat):Int) >>= λj=>some (FlagsK9.Call.says a c d j))=_;rw[Kb W,Kb S,Kb U];delta PlateNeutral.nat?;rw[af (Ib i)];rfl
 let O:∀r,FlagsK9.answer (.says ϲ ϛ Áe i)=r->PyWqbada.says ((i:Nat):Int) t b p=r.ret::((r.nums.map λ(n:Nat)=>(n:Int))++r.bytes.map λ(b:UInt8)=>(b.toNat:Int)):=λr er=>by
  delta PyWqbada.says PlateNeutral.f;rw[F,<-er]
 let(Y,Z):=am5 W S U λL B _ l=>match l[i]? with
  |none=>Flags.NO
  |some x=>match L.tellEntries B x with
   |.error _=>Flags.NONE
   |.ok m=>Flags.gives m
 apply(λz J=>?_,λh x y m e1 M e3=>?_)
 .rw[O _ (Y z J)];rfl
 .let(_,e):=Z h x y m e1 M e3;rw[O _ e];delta yD;cases hr:((r9 x.2 (y.2.map (·.1)) m).map (·.1))[i]? with
  |none=>rfl
  |some ns=>
   let(z,J,rfl):=cb.mp (bI hr);let(_,G):=Yc z J;rw[az] at G;let(f1,f2):=Yg M;let(g1,g2):=anb (L:=AJ x) f1 f2 z.1 0 [] (λ_ hx=>(by cases hx)) G;let I:(nj y).rowsOf z.1=some (hZ (y.2.map (·.1)) z.1):=Yb (Hi y) z.1 (by rw[az];exact G);dsimp only;delta Flags.Locker.tellEntries;rw[I];dsimp only;delta Flags.Locker.tell;delta Az;cases ht':(z.1.map λn=>(y.2.map (·.2)).getD n []).foldl si Ãg with
   |none=>
    let(k,ek):=g2 ht';rw[show(([]:Flags.Bytes),false)=(([]:LI).map B,false) from rfl,ek];rfl
   |some u=>
    let(eu,u8):=g1 u ht';rw[show(([]:Flags.Bytes),false)=(([]:LI).map B,false) from rfl,eu];show(((u.map B).length:Nat):Int)::([]++(u.map B).map λ(b:UInt8)=>(b.toNat:Int))=_;rw[Yi u8,az];rfl
end HD
end
section
namespace HD
open PySem PySem.Spec PyProof.Rows L2
open PySem.W (Codec)
def Ds{K:FR}{C N:Addr}{od S:OA}{nm M:Str}{bs sub:LV}{sn:LS}{ab:Bool}{col:Option Bool}{j m z F G:Option Value}{O:Value}{es:Array DictEntry}{ep:Nat}{sl:AO}(I:K.lookup C=some ⟨.type "type",od,.cls ⟨nm,bs,.ref C::uU,N,M,true,sn,sub,ab,col,false⟩,#[j,m,z,F,some (.builtin "Exception.__new__"),G]⟩) (h2:K.lookup N=some ⟨O,S,.dict es ep,sl⟩)(J:(es.all λe=>match e.key with|.str _ _=>true|_=>false)=true):RR K C N:=by
 apply(_,_,_,_,_,_,_,_,_,_,_,_,_,I,?_);delta PySem.W.nsOkIn;rw[h2];exact J
def Oy{l:LI}(h:l.all Ái=true):JM.aY l:=λx j=>by
 let q:=kU.mp h x j;exact Codec.inInt_iff.mp q
def ang:typeLookup (.type "Exception") ("kind":Str)=pure none:=by rw[typeLookup_type,builtinLookup_eq_fast];kernel_rfl
def anh:typeLookup (.type "Exception") ("line":Str)=pure none:=by rw[typeLookup_type,builtinLookup_eq_fast];kernel_rfl
section
variable{P:Pg}{w:Wd}{K:FR}{h base:Heap}{mg:MG}
def b9(K:FR)(g x:Str)(st:Stmt):Prop:=∃f fd,PySem.W.nsIn K mainGlobals g=some Âd/\bu K x x st f fd
def ar1{R:LV->Prop}(h:∀a,R [a]):∀U,U.length=1->R U:=λU j=>by
 let(a,rfl):=UT j;exact h a
def ar2{R:LV->Prop}(h:∀a b,R [a,b]):∀U,U.length=2->R U:=λU j=>by
 let(a,b,rfl):=UU j;exact h a b
def Oz{R:LV->Prop}(h:∀a b c,R [a,b,c]):∀U,U.length=3->R U:=λU j=>by
 let(a,b,c,rfl):=UV j;exact h a b c
def Dt{R:LV->Prop}(h:∀a b c d,R [a,b,c,d]):∀U,U.length=4->R U:=λU j=>by
 let(a,b,c,d,rfl):=aic j;exact h a b c d
theorem Hj{R:LV->Prop}{n:Nat}(h:∀a U,U.length=n->R (a::U)):∀U,U.length=n+1->R U
 |a::U,hl=>h a U (À hl)
def b9.dn(P:Pg)(w:Wd)(base:Heap){CX:nN}{k:Nat}{g x:Str}{st:Stmt}{ps:LS}{sp:Sp}(D:b9 K g x st)(X:K.In h)(G:h.Ns mainGlobals mg)(hk:∀f fd,bu K x x st f fd->Ì CX k f fd ps sp)(z:∀(kV I pm:Value)(m:OA)(j ct:Value)(us:LV),us.length=ps.length->bindArgs (PySem.W.fnOf x x (uz st) Åq Áh .none kV I pm m j ct) ⟨us,[]⟩=pure Àl:=by first|exact λ_ _ _ _ _ _=>ar1 λ_=>Á|exact λ_ _ _ _ _ _=>ar2 λ_ _=>Á|exact λ_ _ _ _ _ _=>Oz λ_ _ _=>Á|exact λ_ _ _ _ _ _=>Dt λ_ _ _ _=>Á):Ą CX k g ps sp:=
 let ⟨f,fd,a,F⟩:=D
 ⟨f,fd,hk f fd F,PySem.W.mg_of X G a,F.kp,F.binds z⟩
structure lH(K:FR)(x qn:Str)(C:Addr)(st:Stmt)(fs:LS):Prop where
 a:PySem.W.nsIn K mainGlobals x=some (some ā)
 f:∃g fd,Mk K C g/\bu K "__init__" qn st g fd
 c:lh K C
 n:(fs.all λf=>match PySem.W.findIn K ā f with|some none=>true|_=>false)=true
def lH.no{x m:Str}{C:Addr}{st:Stmt}{fs:LS}(D:lH K x m C st fs){f:Str}(j:f∈fs):ϭ f:=by
 let:=kU.mp D.n f j;delta gJ;split at this
 .assumption
 .cases this
def lH.t{x m:Str}{C:Addr}{st:Stmt}{fs:LS}(D:lH K x m C st fs):jN K C fs:=⟨D.c,λ_ j=>D.no j⟩
def lH.mk'(P:Pg)(w:Wd)(base:Heap){x z:Str}{C:Addr}{st:Stmt}{fs:LS}(D:lH K x z C st fs)(X:K.In h)(G:h.Ns mainGlobals mg)(d:∀f j A outer s H E,k9 (ϕ ("self"::fs) z Áh f j A outer s H E).vL Åq (Fo K 1 fs)) (S:bO ("self"::fs) ("self"::fs) Áh:=by exact cu Á Ê) (hs:fs.length<=1000:=by decide)(J:∀(kV M pm:Value)(I:OA)(j ct:Value)(U:LV),U.length=("self"::fs:LS).length->bindArgs (PySem.W.fnOf "__init__" z (uz st) Åq Áh .none kV M pm I j ct) ⟨U,[]⟩=pure (("self"::fs:LS).zip U):=by first|exact λ_ _ _ _ _ _=>Oz λ_ _ _=>Á|exact λ_ _ _ _ _ _=>Dt λ_ _ _ _=>Á|exact λ_ _ _ _ _ _=>Hj λ_=>Dt λ_ _ _ _=>Á|exact λ_ _ _ _ _ _=>Hj λ_=>Hj λ_=>Hj λ_=>Dt λ_ _ _ _=>Á):ă x C fs:=
 let ⟨g,fd,m,F⟩:=D.f
 ⟨g,fd,m,af0 F D.c (λ_ h=>D.no h) S hs (d g),PySem.W.mg_of X G D.a,F.binds J⟩
def Ci(K:FR)(x:Str)(i:Int):Prop:=∃t,PySem.W.nsIn K mainGlobals x=some (some Áw)
def Ci.cn{x:Str}{i:Int}(c:Ci K x i)(X:K.In h)(G:h.Ns mainGlobals mg):Cn mg x Ãe:=let ⟨t,e⟩:=c;⟨_,PySem.W.mg_of X G e,⟨t,rfl⟩⟩
def Ct(K:FR)(x s:Str):Prop:=∃t,PySem.W.nsIn K mainGlobals x=some (some (.str s t))
def Ct.cn{x s:Str}(c:Ct K x s)(X:K.In h)(G:h.Ns mainGlobals mg):Cn mg x (.str s):=let ⟨t,e⟩:=c;⟨_,PySem.W.mg_of X G e,⟨t,rfl⟩⟩
def Tu(K:FR)(x:Str)(vs:au):Prop:=∃a o U n s,PySem.W.nsIn K mainGlobals x=some (some Ğ)/\K.lookup a=some ⟨.type "tuple",o,.seq U n,s⟩/\U.size<=100/\bh vs U.toList
def Tu.tn{x:Str}{vs:au}(c:Tu K x vs)(X:K.In h)(G:h.Ns mainGlobals mg):Tn K mg x vs:=let ⟨_,_,_,_,_,e,l,z,v⟩:=c;⟨_,PySem.W.mg_of X G e,λ_=>.inr ⟨_,_,_,l,rfl,rfl,ia z Ù,v⟩⟩
def dfk{g x:Str}{st:Stmt}{f:Addr}{O kV I pm j ct:Value}{od m:OA}{z:AO}(a:PySem.W.nsIn K mainGlobals g=some Âd:=by k_is)(l:K.lookup f=some ⟨O,od,.func (PySem.W.fnOf x x (uz st) Åq Áh .none kV I pm m j ct),z⟩:=by k_is)(c:PySem.W.codeIn K j x=true:=by k_is)(k:PySem.W.keepIn K Ă=true:=by k_is):b9 K g x st:=⟨f,_,a,nU l c k⟩
def gq{x:Str}{i:Int}{t:Tok}(e:PySem.W.nsIn K mainGlobals x=some (some Áw):=by k_is):Ci K x i:=⟨t,e⟩
def Ab(K:FR)(x:Str):Prop:=PySem.W.nsIn K mainGlobals x=some none
def oH{x:Str}(e:PySem.W.nsIn K mainGlobals x=some none:=by k_is):Ab K x:=e
def Ab.z{x:Str}(c:Ab K x)(X:K.In h)(G:h.Ns mainGlobals mg):mg x=none:=PySem.W.mg_none_of X G c
structure Du(K:FR)(x:Str)(C N:Addr):Prop where
 a:PySem.W.nsIn K mainGlobals x=some (some ā)
 c:XC K C N
 k:PySem.W.keepIn K ā=true
end
def all_mk{P:Pg}{w:Wd}{K:FR}{h:Heap}{mg:MG}{fa:Addr}(X:K.In h)(G:h.Ns mainGlobals mg)(hfa:mg "says"=some (.ref fa)){CS CG CP CK CL CV CQ CE eZ CR CF CN NN CB NB CT NT CY NY oC NP cM TM fM:Addr}{ocM kVM dcM pmM ctM:Value}{odM anM odC:OA}{slM slC:AO}{v0 v1 v2 v3 v4 v5 v6 v8 x6 J3 J4 J5 J6 J7:Value}{fl tx:Int}{tf tt ts:Tok}{bb:Bool}{xs:Str}(anw:b9 K "cell_behind" "cell_behind" Kc)(anx:b9 K "cells_seen" "cells_seen" Kd)(anz:b9 K "spelled" "spelled" Ke)(anA:b9 K "cut" "cut" Kf)(anB:b9 K "whole_lines" "whole_lines" Kg)(anC:b9 K "place_among" "place_among" Kh)(anD:b9 K "places_in" "places_in" Ki)(anE:b9 K "read_colours" "read_colours" Kj)(anF:b9 K "is_name" "is_name" Kk)(anG:b9 K "name_behind" "name_behind" Kl)(anH:b9 K "read_locker" "read_locker" Km)(anI:b9 K "read_name" "read_name" Ko)(anJ:b9 K "read_digit" "read_digit" Kq)(anK:b9 K "read_kind" "read_kind" Kr)(anL:b9 K "are_in_order_lockers" "are_in_order" Ks)(anN:b9 K "may_follow" "may_follow" Ku)(anO:b9 K "are_different" "are_different" Kw)(anP:b9 K "has_twice" "has_twice" Kx)(anQ:b9 K "read_plate" "read_plate" Kz)(anR:b9 K "read_line" "read_line" KA)(anS:b9 K "read_side" "read_side" KB)(anT:b9 K "read_row" "read_row" KC)(anU:b9 K "may_stand" "may_stand" KD)(anV:b9 K "lacks_flags" "lacks_flags" KF)(anW:b9 K "lacks_cells" "lacks_cells" KG)(anY:b9 K "has_whole_hoists" "has_whole_hoists" KH)(anZ:b9 K "put" "put" KI)(an0:b9 K "sighting_of" "sighting_of" KJ)(an1:b9 K "view_of" "view_of" KL)(an2:b9 K "kinds_along" "kinds_along" KM)(an3:b9 K "kinds_that_look_so" "kinds_that_look_so" KN)(an4:b9 K "may_be" "may_be" KO)(an5:b9 K "fits" "fits" KP)(an6:b9 K "hoist_fits" "hoist_fits" KQ)(an7:b9 K "fits_at" "fits_at" KR)(an8:b9 K "display_told" "display_told" KS)(an9:b9 K "copies_lacking" "copies_lacking" KU)(aoa:b9 K "sames_along" "sames_along" KW)(aob:b9 K "bits_of_sames" "bits_of_sames" KY)(aoc:b9 K "places_of" "places_of" KZ)(aod:b9 K "plan_of" "plan_of" K0)(aoe:b9 K "places_outside" "places_outside" K1)(aof:b9 K "copies_in" "copies_in" K2)(aog:b9 K "hoist_told" "hoist_told" K3)(aoh:b9 K "flag_told" "flag_told" K4)(aoi:b9 K "hang" "hang" K5)(aoj:b9 K "read_book" "read_book" K6)(aok:b9 K "numbers_of_signs" "numbers_of_signs" K7)(aol:b9 K "read_entry" "read_entry" K8)(aom:b9 K "read_signs" "read_signs" K9)(aon:b9 K "read_meaning" "read_meaning" La)(aoo:b9 K "are_in_order_books" "are_in_order" Lb)(aop:b9 K "can_be_shown" "can_be_shown" Lc)(aoq:b9 K "readings_of" "readings_of" Ld)(aor:b9 K "entries_in_doubt" "entries_in_doubt" Le)(aos:b9 K "product" "product" Lf)(aot:b9 K "all_rows" "all_rows" Lg)(aou:b9 K "sides_of" "sides_of" Lh)(aov:b9 K "answered" "answered" Lk)(aow:b9 K "found" "found" Ll)(aox:b9 K "says_told" "says_told" Lj)(aoy:b9 K "entries_tell" "entries_tell" Li)(Hk:lH K "Sighting" "Sighting.__init__" CS afB ["shape","cells"])(Dv:lH K "Glimpse" "Glimpse.__init__" CG afC ["above","below","flags"])(Dx:lH K "Plate" "Plate.__init__" CP afD ["side","classes","glimpses"])(M:lH K "Kind" "Kind.__init__" CK afz ["role","name","which","copies","shape","look"])(AK:lH K "Locker" "Locker.__init__" CL afA ["name","kinds"])(OB:lH K "View" "View.__init__" CV afE ["side","glimpses"])(Dy:lH K "Plan" "Plan.__init__" CQ afF ["sames","gaps","spares"])(AL:lH K "Entry" "Entry.__init__" CE afG ["row","meaning"])(Hl:lH K "Book" "Book.__init__" eZ afH ["name","entries"])(Yj:lH K "Reading" "Reading.__init__" CR afI ["entries","hoists","sides"])(Yk:lH K "Finding" "Finding.__init__" CF afJ ["locker","book","plate","readings"])(OC:Du K "NoLocker" CN NN)(aoz:PySem.W.nsIn K NN "__init__"=some none)(OD:Du K "NoBook" CB NB)(aoA:PySem.W.nsIn K NB "__init__"=some none)(OE:Du K "TooMuchInDoubt" CT NT)(aoB:PySem.W.nsIn K NT "__init__"=some none)(OF:Du K "TellsNothing" CY NY)(aoC:PySem.W.nsIn K NY "__init__"=some none)(OG:Du K "NoPlate" oC NP)(y1:PySem.W.nsIn K NP "kind"=some none)(y2:PySem.W.nsIn K NP "line"=some none)(y3:∃f fd,PySem.W.nsIn K NP "__init__"=some Âd/\PySem.W.isFn K Ă=true/\bu K "__init__" "NoPlate.__init__" Ky f fd)(nz:PySem.W.findCls K (.type "Exception") (.type "type") "__init__"=some (.val (.builtin "Exception.__init__")))(OI:Ci K "FRONT" 0)(Hm:Ci K "BEHIND" 1)(Ho:Ci K "CELLS" 16)(Hq:Ci K "ROW" 4)(OJ:Ci K "MOST_BYTES" 65536)(Hr:Ci K "LINE_END" 10)(O:Ci K "BLANK" 32)(OK:Ci K "LONGEST_NAME" 8)(Y:Ci K "SIGN" 0)(Hs:Ci K "SAME" 1)(OL:Ci K "MOST_COPIES" 8)(OM:Ci K "MOST_SAME" 4)(ON:Ci K "MOST_SIGNS" 48)(OO:Ci K "DIGIT_ZERO" 48)(OP:Ci K "MOST_HOISTS" 4)(Ht:Ci K "MOST_FLAGS" 8)(OQ:Ci K "UNKNOWN_SIDE" 2)(OR:Ci K "UNSEEN_SHAPE" 3)(OS:Ci K "UNSEEN_CELL" 16)(Hu:Ci K "SIDE_LINE" 0)(Hv:Ci K "HOIST_LINE" 1)(OT:Ci K "SHAPE_LINE" 2)(OU:Ci K "CELLS_LINE" 3)(OV:Ci K "NO_SUCH_LINE" 1)(OW:Ci K "WRONG_PLACE" 2)(OX:Ci K "TITLE_LINES" 2)(OY:Ci K "MOST_ENTRIES" 2048)(OZ:Ci K "LONGEST_MEANING" 64)(O0:Ci K "FULL_STOP" 46)(O1:Ci K "LAST_PRINTED" 126)(O2:Ci K "MOST_IN_DOUBT" 1024)(O3:Ct K "COLOUR_SIGNS" "0123456789abcdef")(O4:Ct K "NAME_SIGNS" "ABCDEFGHIJKLMNOPQRSTUVWXYZ0123456789")(O5:Ct K "SEEN_SIGNS" "0123456789abcdef?")(O6:Tu K "SHAPES" ((["square","tails","long"]:LS).map V.str))(O7:Tu K "ROLES" ((["sign","same","answer"]:LS).map V.str))(O8:Tu K "SIDES" ((["front","behind","unknown"]:LS).map V.str))(O9:Tu K "HOIST_LINES" ((["hoist","hoist above","hoist below","hoist above below"]:LS).map V.str))(Pa:Tu K "SEEN_SHAPES" ((["square","tails","long","shape?"]:LS).map V.str))(Pb:Tu K "SPELLING" ((["spell","more"]:LS).map V.str))(Pc:Tu K "WORDS_OF_ROLES" [.int 5,.int 5,.int 4])(Pd:Ab K "ord")(j:Ab K "enumerate")(U:Ab K "all")(Hw:Ab K "any")(I:Ab K "len")(Z:Ab K "range")(Hy:Ab K "sum")(Hz:Ab K "dict")(Pe:Ab K "zip")(HA:Ab K "list")(Dz:Ab K "max")(HB:Ab K "min")(HC:Ab K "tuple")(Pf:Ab K "Exception")(aM:PySem.W.nsIn K mainGlobals "says"=some (some (.ref fM))) (lM:K.lookup fM=some ⟨ocM,odM,.func (PySem.W.fnOf "says" "says" (uz qv) (i7 qv) (aZ qv) .none kVM dcM pmM anM (.ref cM) ctM),slM⟩) (oM:PySem.W.codeIn K (.ref cM) "says"=true) (kM:PySem.W.keepIn K (.ref fM)=true)(lC:K.lookup cM=some ⟨.type "code",odC,.fields #[v0,v1,v2,v3,v4,v5,v6,.int fl tf,v8,.bool bb,.int tx tt,.ref TM,x6,J3,J4,J5,J6,J7,.str xs ts],slC⟩) (Yl:(cM==TM)=false) (nT:K.lookup TM=none) (nd:[CN,CB,oC,CT].Nodup):
  ∃(fd:FD)(o:Obj)(c T:Addr),K.lookup fa=some o/\o.data=.func fd/\fd.code=.ref c/\BX K c T/\K.lookup T=none/\(∀(s:Sh)(S:LV),S.length=(["i","t","b","p"]:LS).length->BindsTo s fd ⟨S,[]⟩ ((["i","t","b","p"]:LS).zip S))/\
   ∀base:Heap,K.In base->base.Ns mainGlobals mg->x5 mg base->Ì aE 9 fa fd ["i","t","b","p"] (N5 K T):=by
 let e:=hfa.symm.trans (PySem.W.mg_of X G aM);cases e;let OI:=OI.cn X G;let Hm:=Hm.cn X G;let Ho:=Ho.cn X G;let Hq:=Hq.cn X G;let OJ:=OJ.cn X G;let Hr:=Hr.cn X G;let O:=O.cn X G;let OK:=OK.cn X G;let Y:=Y.cn X G;let Hs:=Hs.cn X G;let OL:=OL.cn X G;let OM:=OM.cn X G;let ON:=ON.cn X G;let OO:=OO.cn X G;let OP:=OP.cn X G;let Ht:=Ht.cn X G;let OQ:=OQ.cn X G;let OR:=OR.cn X G;let OS:=OS.cn X G;let Hu:=Hu.cn X G;let Hv:=Hv.cn X G;let OT:=OT.cn X G;let OU:=OU.cn X G;let OV:=OV.cn X G;let OW:=OW.cn X G;let OX:=OX.cn X G;let OY:=OY.cn X G;let OZ:=OZ.cn X G;let O0:=O0.cn X G;let O1:=O1.cn X G;let O2:=O2.cn X G;let O3:=O3.cn X G;let O4:=O4.cn X G;let O5:=O5.cn X G;let O6:=O6.tn X G;let O7:=O7.tn X G;let O8:=O8.tn X G;let O9:=O9.tn X G;let Pa:=Pa.tn X G;let Pb:=Pb.tn X G;let Pc:=Pc.tn X G;let Pd:=Pd.z X G;let j:=j.z X G;let U:=U.z X G;let Hw:=Hw.z X G;let I:=I.z X G;let Z:=Z.z X G;let Hy:=Hy.z X G;let Hz:=Hz.z X G;let Pe:=Pe.z X G;let HA:=HA.z X G;let Dz:=Dz.z X G;let HB:=HB.z X G;let HC:=HC.z X G;let Pf:=Pf.z X G;let m:mJ K ⟨CS,CG,CP⟩:=⟨Hk.c,Dv.c,Dx.c,Hk.no Ä,Hk.no Ä,Dv.no Ä,Dv.no Ä,Dv.no Ä,Dx.no Ä,Dx.no Ä,Dx.no Ä⟩;let J:tj K CK:=⟨M.c,M.no Ä,M.no Ä,M.no Ä,M.no Ä,M.no Ä,M.no Ä⟩;let TL:LkT K CL:=⟨AK.c,AK.no Ä,AK.no Ä⟩;let XN:œ "NoLocker" CN NN:=⟨OC.c,aoz,PySem.W.mg_of X G OC.a,OC.k⟩;let XB:œ "NoBook" CB NB:=⟨OD.c,aoA,PySem.W.mg_of X G OD.a,OD.k⟩;let XT:œ "TooMuchInDoubt" CT NT:=⟨OE.c,aoB,PySem.W.mg_of X G OE.a,OE.k⟩;let XP:Fw K mg oC NP:=⟨OG.c,⟨y1,ang⟩,⟨y2,anh⟩,PySem.W.mg_of X G OG.a,OG.k⟩;apply(_,_,cM,TM,lM,Á,Á,S8 lC Yl,nT,λs S hu=>.of_eq (Dt (R:=λS=>bindArgs _ ⟨S,[]⟩=pure (_:List (Str×Value))) (λ_ _ _ _=>Á) S hu),λbase _ _ hb=>?_);let Ph:=anz.dn P w base X G λf fd F=>afL F Pd;let yN:=anA.dn P w base X G λf fd F=>afO F;let(fS,ya,GS,mS,kS,bS):=id Ph;let HE:=anC.dn P w base X G λf fd F=>afR F j GS mS kS bS;let Pi:=anD.dn P w base X G λf fd F=>afV F U GS mS kS bS;let(fP,Lr,GP,mP,kP,bP):=id Pi;let(uC,mC,rC):=O3;let Ym:=anE.dn P w base X G λf fd F=>afX F I mC rC GP mP kP bP;let Yn:=anF.dn P w base X G λf fd F=>agJ F I OK O4 Pi;let Yo:=anG.dn P w base X G λf fd F=>agL F I O yN Ph Yn;let Yp:=anB.dn P w base X G λf fd F=>agN F Hr yN;let Yq:=Hk.mk' P w base X G λ_ _ _ _ _ _ _=>aB ı (aD İ);let dMG:=Dv.mk' P w base X G λ_ _ _ _ _ _ _=>aB ı ϊ;let dMP:=Dx.mk' P w base X G λ_ _ _ _ _ _ _=>aB ı ϊ;let dMK:=M.mk' P w base X G λ_ _ _ _ _ _ _=>aB ı (aB İ (aB (fk Û ø rfl) (aB (fk Û Ĵ rfl) (aB (fk Û Äo rfl) (aD (fk Û Ãu rfl))))));let dML:=AK.mk' P w base X G λ_ _ _ _ _ _ _=>aB ı (aD İ);let dMV:=OB.mk' P w base X G λ_ _ _ _ _ _ _=>aB ı (aD İ);let dMQ:=Dy.mk' P w base X G λ_ _ _ _ _ _ _=>aB ı ϊ;let dME:=AL.mk' P w base X G λ_ _ _ _ _ _ _=>aB ı (aD İ);let dMB:=Hl.mk' P w base X G λ_ _ _ _ _ _ _=>aB ı (aD İ);let dMR:=Yj.mk' P w base X G λ_ _ _ _ _ _ _=>aB ı ϊ;let dMF:=Yk.mk' P w base X G λ_ _ _ _ _ _ _=>aB ı (aB İ (aB (fk Û ø rfl) (aD (fk Û Ĵ rfl))));let dRN:=anI.dn P w base X G λf fd F=>agR F XN Yn;let dRD:=anJ.dn P w base X G λf fd F=>agT F I XN OO;let dRK:=anK.dn P w base X G λf fd F=>agW F I XN O O7 Pc Y Hs OM OL O6 yN HE dRN dRD Ym dMK;let dHT:=anP.dn P w base X G λf fd F=>ahj F Hw j;let aoR:=anN.dn P w base X G λf fd F=>ahl F J Y;let dOr:=anL.dn P w base X G λf fd F=>ahn F J I U j Y ON aoR;let dDi:=anO.dn P w base X G λf fd F=>ahq F J Y dHT;let dRL:=anH.dn P w base X G λf fd F=>ahs F XN Yp Yo dRK dOr dDi dML;let aoV:=anT.dn P w base X G λf fd F=>af2 F I Hq O5 Pi;let aoW:=anS.dn P w base X G λf fd F=>af3 F I O O8 yN Ph HE Ym;let aoX:=anR.dn P w base X G λf fd F=>af7 F j O9 Pa aoW HE aoV;let Pj:=anV.dn P w base X G λf fd F=>agd F m;let Yr:=anW.dn P w base X G λf fd F=>agg F m I Ho Pj;let dWh:=anY.dn P w base X G λf fd F=>agi F m Pj Yr;let aoZ:=anU.dn P w base X G λf fd F=>agk F m I Hu Hv OU OP Ht Pj Yr;let ao0:=anZ.dn P w base X G λf fd F=>ags F m Hu Hv OT dMG Yq;let(gN,Ub,n1,n2,FN):=y3;let dNp:T7 P w K mg base oC NP:=⟨_,_,XP,n1,n2,agA FN XP Pf nz,FN.binds λ_ _ _ _ _ _=>Oz λ_ _ _=>rfl⟩;let dRP:=anQ.dn P w base X G λf fd F=>agD F m I j Hr OV OW yN dMP dNp aoX aoZ ao0 dWh;let dBh:=anw.dn P w base X G λf fd F=>aie F Hq;let dCS:=anx.dn P w base X G λf fd F=>aif F Z Hm Ho dBh;let dSO:=an0.dn P w base X G λf fd F=>aii (C:=⟨CS,CG,CP⟩) F J Yq dCS;let ao6:=an4.dn P w base X G λf fd F=>aij F m U j OR OS;let dKS:=an3.dn P w base X G λf fd F=>ail F j ao6;let dKA:=an2.dn P w base X G λf fd F=>ain F m dKS;let dVO:=an1.dn P w base X G λf fd F=>aiu F m dMV dSO dKA;let dFA:=an7.dn P w base X G λf fd F=>aix F U j;let dHF:=an6.dn P w base X G λf fd F=>aiy F m I Hw Z dFA;let dFi:=an5.dn P w base X G λf fd F=>aiA F m OB.t U j dHF;let dBS:=aob.dn P w base X G λf fd F=>aiD F J Hy j;let dSA:=aoa.dn P w base X G λf fd F=>aiG F I Z dBS;let dPO:=aoe.dn P w base X G λf fd F=>aiH F I;let dCI:=aof.dn P w base X G λf fd F=>aiI F J Hy j;let dLa:=an9.dn P w base X G λf fd F=>aiJ F J Hz;let dPf:=aoc.dn P w base X G λf fd F=>aiS F Pe;let apj:=aod.dn P w base X G λf fd F=>aiZ F Dy.t I HA Z Dz dMQ dPO dCI;let dHa:=aoi.dn P w base X G λf fd F=>aje F Dy.t j Dz HB;let dFT:=aoh.dn P w base X G λf fd F=>ajj F Dy.t I Z dHa;let apm:=aog.dn P w base X G λf fd F=>ajp F j dFT;let Ys:=an8.dn P w base X G λf fd F=>ajA F J Dy.t HA j HB Hs dLa dSA dPf apj apm;let dRM:=aon.dn P w base X G λf fd F=>ajO F I U XB OZ O O1 yN;let dNu:=aok.dn P w base X G λf fd F=>ajT F J Hz HC j Y;let apq:=aom.dn P w base X G λf fd F=>ajX F I HC XB Ht O0 yN;let apr:=aol.dn P w base X G λf fd F=>aj0 F XB O dME apq dRM;let dOB:=aoo.dn P w base X G λf fd F=>aj1 F AL.t I U j;let dCB:=aop.dn P w base X G λf fd F=>aj2 F AL.t U Ys;let dRB:=aoj.dn P w base X G λf fd F=>aj8 F XB AK.t I OX OY Yp Yo dNu apr dOB dCB dMB;let dED:=aor.dn P w base X G λf fd F=>ake F m Hl.t AL.t I j;let dPr:=aos.dn P w base X G λf fd F=>akf F;let dSd:=aou.dn P w base X G λf fd F=>akh F m OI Hm OQ;let dAR:=aot.dn P w base X G λf fd F=>ako F;let dRe:=aoq.dn P w base X G λf fd F=>akC F XT m AK.t Hl.t AL.t OB.t I O2 dED dPr dVO dSd dAR Ys dFi dMR;let dFo:=aow.dn P w base X G λf fd F=>ak1 (k:=⟨⟨CS,CG,CP⟩,CL,CK,eZ,CE,CR,CF⟩) F dRL dRB dRP dRe dMF;let XY:œ "TellsNothing" CY NY:=⟨OF.c,aoC,PySem.W.mg_of X G OF.a,OF.k⟩;let dTl:=aoy.dn P w base X G λf fd F=>ald F XY AL.t O Pb HE;let dNt:=aox.dn P w base X G λf fd F=>alh (k:=⟨⟨CS,CG,CP⟩,CL,CK,eZ,CE,CR,CF⟩) F Yk.t Yj.t Hl.t XY I dTl;exact alm (nU (st:=qv) lM oM kM) Á (S8 lC Yl) hb λ_ _=>aov.dn P w base X G λf fd F=>ak6 (k:=⟨⟨CS,CG,CP⟩,CL,CK,eZ,CE,CR,CF⟩) F XN XB XP XT nd I Dz OJ dFo (alj (pm:=(mg "__name__").getD .none) dNt)
end HD
end
section
open PySem.W (Codec)
open PySem PySem.W PyProof.Rows HD
set_option maxRecDepth 100000 in
set_option maxHeartbeats 0 in
theorem PySem.Challenge.cw_halfseendesk_s07_says_holds : PySem.Challenge.rw_halfseendesk_s07_says.Holds := by
 refine PySem.W.holds_os (q:=kQ) (loose:=kL) (Xt:=kX) (XP:=PySem.W.XL kQ []) (Yf:=PySem.W.Hook.obs Ś) (Ya:=PySem.W.Hook.val Ś) (YP:=PySem.W.Hook.says Ś) (N:=11710) Zs (PySem.W.Hook.of Ś) (PySem.W.Hook.keeps Ś) (λs e=>PySem.W.xl_of s (sy.mp e).1) PySem.W.XL.keeps Ô Ô Ô (λs e=>PySem.W.recFacts_of (sy.mp e).2) PySem.W.os_shapes Ê Ê ⟨Á,Á,Á,Á,Á,by decide+kernel⟩ ⟨[.int 0,.list [],.list [],.list []],by decide+kernel,by decide+kernel⟩ ?hc
 k_fillS
 refine L2.afk (r:=PySem.Challenge.rw_halfseendesk_s07_says) (k:=9) (CX:=L2.aE) (ps:=["i","t","b","p"]) (sp:=N5) Ê Á Á ⟨Á,by decide,by decide⟩ (λw h Y=>PySem.W.kIn_of Y) (by kernel_rfl) ?F ?S (λ_ _ _ _ z=>z)
 case F=>
  intro w mg fa h Y KX G Fe;exact all_mk KX G Fe dfk dfk dfk dfk dfk dfk dfk dfk dfk dfk dfk dfk dfk dfk dfk dfk dfk dfk dfk dfk dfk dfk dfk dfk dfk dfk dfk dfk dfk dfk dfk dfk dfk dfk dfk dfk dfk dfk dfk dfk dfk dfk dfk dfk dfk dfk dfk dfk dfk dfk dfk dfk dfk dfk dfk dfk dfk dfk dfk dfk dfk dfk Æ Æ Æ Æ Æ Æ Æ Æ Æ Æ Æ è (by k_is) è (by k_is) è (by k_is) è (by k_is) è (by k_is) (by k_is) ⟨_,_,by k_is,by k_is,L2.nU (by k_is) (by k_is) (by k_is)⟩ (by k_is) gq gq gq gq gq gq gq gq gq gq gq gq gq gq gq gq gq gq gq gq gq gq gq gq gq gq gq gq gq gq gq ⟨_,by k_is⟩ ⟨_,by k_is⟩ ⟨_,by k_is⟩ á á á á á á á oH oH oH oH oH oH oH oH oH oH oH oH oH oH
   (by k_is) (by k_is) (by k_is) (by k_is) (by k_is) Ô (by kernel_rfl) Ù
 case S=>
  intro K T H xs a hT uM asj hx;let(j,t,b,p,u):=a;rcases hx with _|⟨h0,hx⟩;cases h0;cases hx with
  |cons h1 h2=>
   cases h2 with
   |cons h3 h4=>
    cases h4 with
    |cons h5 h6=>
     cases h6;cases h1 with
     |lst s1 a1=>
      cases h3 with
      |lst s2 a2=>
       cases h5 with
       |lst s3 a3=>
        let e:=L2.JT t _ a1;subst e;let e:=L2.JT b _ a2;subst e;let e:=L2.JT p _ a3;subst e;let q:(Codec.inInt 0 18446744073709551615 j&&((Codec.inLen 0 66000 t&&t.all Ái)&&((Codec.inLen 0 66000 b&&b.all Ái)&&((Codec.inLen 0 66000 p&&p.all Ái)&&true))))=true:=uM;simp only[iU] at q;let(q0,(q1,q2),(q3,q4),(q5,q6),_):=q;let t8:JM.aY t:=Oy q2;let b8:JM.aY b:=Oy q4;let p8:JM.aY p:=Oy q6;obtain⟨i,rfl⟩:∃n:Nat,j=(n:Int):=⟨Int.toNat j,(Y1 (Codec.inInt_iff.mp q0).1).symm⟩;let(m1,m2):=anc i t8 b8 p8;apply(i,_,_,_,t,b,p,Á,hT,s1,s2,s3,(Zh.mp q1).2,(Zh.mp q3).2,(Zh.mp q5).2,λx e=>ami t8 e,λm e=>X1 p8 e,λz hz H' r hr=>?_,λhz x y m e1 e2 e3=>⟨⟨λz hz=>(by let(a,c):=Yc z hz;rw[az] at c;exact(by rw[a];exact(X1 p8 e3).dg,c)),λe he=>(Yh ((Yg e2).2 e he)).1⟩,λH' r hr=>?_⟩)
        .show L2.Dw K H' _ (.list ((PyWqbada.says (i:Int) t b p).map .int));rw[m1 z hz];exact .lst (L2.aa.of hr) (L2.SU [z])
        .show L2.Dw K H' _ (.list ((PyWqbada.says (i:Int) t b p).map .int));rw[m2 hz x y m e1 e2 e3];exact .lst (L2.aa.of hr) (L2.SU _)
#print axioms PySem.Challenge.cw_halfseendesk_s07_says_holds
end
