import PyProof.Rows.All
import KE.KPairComp
import OpenK.KOwn
import Open.SpecLaws
import KE.KDictOf
import KE.KNest
import KE.OsHead
import PyProof.Rows.SetFrom
import KE.KDictSum
import KE.KSortedAny
import KE.KLam
import PySem.Challenge.RW_halfseendesk_s05_entries
import PyWqbada
set_option Elab.async false
set_option linter.all false
set_option maxRecDepth 100000
set_option maxHeartbeats 2000000
set_option bootstrap.genMatcherCode false
set_option genSizeOf false
set_option genSizeOfSpec false
set_option compiler.extract_closed false
namespace MP_
open Lean
def mI(s:String):Syntax:=mkIdent (s.splitOn "."|>.foldl (λn c=>.str n c) .anonymous)
def mN:Name->Array Syntax->Syntax:=.node .none
def mS(f:String)(l:List Syntax)(r:String)(k:Name):Syntax:=mN k #[mkAtom f,mkNullNode ((l.intersperse (mkAtom ",")).toArray),mkAtom r]
def nT:String->Name:=.str `Lean.Parser.Term
def nC:String->Name:=.str `Lean.Parser.Tactic
def mP(f:Syntax)(a:Array Syntax):Syntax:=mN (nT "app") #[f,mkNullNode a]
def mA:List Syntax->Syntax
|[x]=>x
|l=>match l.reverse with|f::a=>mP f a.toArray|_=>.missing
def mW(w:String):Syntax:=if w="_" then mN (nT "hole") #[mkAtom w] else if w="?_" then mN (nT "syntheticHole") #[mkAtom "?",mkAtom "_"] else if w.front.isDigit then Syntax.mkNumLit w else if w.front='.' then mN (nT "dotIdent") #[mkAtom ".",mI (w.drop 1).toString] else mI w
def mG:List String->List Syntax->List Syntax->List (List Syntax×List Syntax)->Syntax
|[],_,c,_=>mA c
|w::r,p,c,s=>if w="("||w="⟨"||w="[" then mG r [] [] ((p,c)::s)
 else if w="," then mG r (mA c::p) [] s
 else if w=")"||w="⟩"||w="]" then
  let l:=(if c.isEmpty then p else mA c::p).reverse
  match s with|(p,d)::s=>mG r p ((if w=")" then mA c else if w="⟩" then mS "⟨" l w (nT "anonymousCtor") else mS "[" l w `«term[_]»)::d) s|_=>.missing
 else mG r p (mW w::c) s
def mL(s:String):Syntax:=mG (((("( ) ⟨ ⟩ [ ] ,".splitOn " ").foldl (λs c=>s.replace c (" "++c++" ")) s).splitOn " ").filter (· ≠"")) [] [] []
def mT(t n:String):Option Syntax:=(t.splitOn ";").findSome? λe=>if e.startsWith (n++" ") then some (match (e.drop (n.length+1)).toString.splitOn "=>" with|[b,x]=>mN (nT "fun") #[mkAtom "fun",mN (nT "basicFun") #[mkNullNode ((b.splitOn " ").map mW).toArray,mkNullNode,mkAtom "=>",mL x]]|x=>mL (x.headD "")) else none
def tb:="Æ ⟨Δ,⟨_,_,⟨Δ,Δ,Δ,Δ⟩,L2.nV Δ Δ Δ ⟩,⟨Δ,Δ,Δ,Δ⟩,Ε⟩;Ê c9 Ε;æ upd (upd (upd H T0 (ent .none T0)) a (exc C od (.ref T) a)) T (ent (rawInt L) T);ç ⟨_,_,_,_,_,Δ,Δ,Ù,Ζ⟩;ï ⟨rfl,rfl,rfl,È,rfl,È,È⟩;Ó X hP hw hK hc i pins s σ H E I hf st hg;Ö pins s σ H Q I h;ò pins s σ H x y v u Q I rx ry h;Α some;Β none;Á rfl;Â aI A outer s H vs Q E hr h=>?_;Ã Inv X pins σ;Ç Dn P w K mg base aF;É model X.prog X.w;Ë model prog w;Ì ba P w K mg base;Í ks.map aB.m;Ï hc=>?_;Ð X.gy s H scope(compEnvC scope cl C X.env)fp;Ñ l.kinds.map aB.m;Õ _ _ _ _ _=>eI;Ø _ _=>rfl;Ú pv 0;Û aE(ko hr.hd X.c(nX X.c X.n9 X.keep rfl X.mC));Ü b.es.map bu.row;Þ sW PySem.F.plainAttrs_list PySem.F.slot_list_append PySem.F.type_list_append zN;ß ⟨Tt,_,Á,bz.of aq,Á,_,_,Á,_,_,Á,Á,Á,eJ ?_⟩;à .ListComp k8[⟨tg,iter,jE,0⟩]scope pos;â pv 1;ã aa K H;ä .lst[];å aZ left;è pv 2;í .dK(bG V.int lacks);î .ref s.heap.objs.size;ñ ⟨Tt,_,Á,bz.of aq,Á,_,_,Á,_,_,Á,Á,Á,?_⟩;ó p.ak.map cz.m;ô EP X pins σ;õ ae Ú ah;ö di sames;ø starEach es X.env;ù excClassObj nm q C N bs bm true sn sub ab col dd k0 k1 k2 k3 k5 newId;ú pv 3;û eX rows(fX ms rows);ü ba X.prog X.w X.K X.mg X.base;ý H' f=>?_;þ dc gf Ò tL PySem.boot_len(ae è ah);ÿ dc gf Ò tL PySem.boot_len(ae â ah);Ā I.ok.hd hc;ā .ref a;Ă .lst(gQ.map V.ref);ă jQ.map codes;Ą cA sames;ą .ref C;Ć .ref f;ć n0 P w K mg base;Ĉ gw I q Ä;ĉ e9 X.prog X.w;Ċ dc gf Ò tL PySem.boot_len õ;ċ bg Ú rfl;Č i y H' hi f=>?_;č Dn P w K mg base;Ď cK.zero hD;ď upd H1 D ä;Đ oX P w K mg base A outer s;đ b hb=>?_;Ē .lst(qs.map V.ref);ē .dK kvs;Ĕ upd H s.heap.objs.size;ĕ iZ x.zs bits;Ė bj lf l s;ė excClassObj nm q C N bs bm hdct sn sub ab col dd k0 k1 k2 k3 k5 newId;Ę Flags.less1 left f;ę gD P w;Ě eT classes;ě .inl Á;Ĝ ⟨_,Á,?_⟩;ĝ .ref p;Ğ PySem.W.fnOf x cY(uK st)(i6 st)(aY st).none kV i3 pm an aI ct;ğ I.ax.fresh(bw _);Ġ hd=>?_;ġ X.gy s3 H3 scope ce fp;Ģ SetTable.grown ft.size;ģ fC sames.length Ą å Ý D;Ĥ a0(eG(ae(jt j6 bp)ah));ĥ jg K s₁.heap;Ħ dY P w H;ħ compEnvC scope cl s3.heap.objs.size X.env;Ĩ bg(cQ c8 ċ(jt j6 bp)Ø)rfl;ĩ iw prog w;Ī cA sames b;ī .dK(bG gA tt);Ĭ a7 ms;ĭ SetTable.below t.place j;Į w.map B;į .Tuple ny kk mQ;İ x4 X.N X.env.scope scope;ı lY CX P w K mg base N cY;Ĳ s2.trans s3;ĳ fg Ú è rfl;Ĵ fg Ú â rfl;ĵ ai.refl H';Ķ mT s.heap a es ep;ķ Ff TN.c iN F6 TN.keep GN n8 rfl TN.mC;ĸ pv 4;Ĺ ae ú ah;ĺ ⟨Á,_,Á,?_⟩;Ļ eG ah;ļ b z=>absurd z Ä;Ľ l.map B;ľ wipe σ vs;Ŀ ns.map V.int;ŀ PySem.W.instObj C s.heap.objs.size;Ł A.deeper(envOfC cY(aY st)s.heap.objs.size f aI);ł σ.set i(some v);Ń bC JM.iG line;ń bC JM.iF line;Ņ mw X pins;ņ Binds X.K fd ps;Ň sames.getD i 0;ň sames.getD b 0;ŉ i=>ns.getD i 0;Ŋ rg C h.objs.size;ŋ past.map bX;Ō kp p hp;ō fX ms rows;Ŏ aZ(jD ms);ŏ aE(ko hr.hd X.c(nX X.c X.n9 X.keep Á X.mC));Ő .lst(iv l);ő .int 0;Œ putK kvs k;œ i x Tt H' hi f hT=>?_;Ŕ ws.getD 1[];ŕ upd H1 pl Ă;Ŗ iv p.classes;ŗ bg â rfl;Ř exc C none .none x;ř Builtin.bitAnd i j;Ś wpAny M A;ś bg Ú Á;Ŝ ae â ah;ŝ ae(cQ c8 â bp Ø)ah;Ş aA 3;ş PySem.W.kHook kK kA kE;Š refusal t b;š aA 2;Ţ .dK(bG gI(gH y.m.flatten));ţ y=>PyData.eqv(dataOf(aj.zip ds)y)dx;Ť b o nb nf g=>?_;ť ms.map(pA classes d);Ŧ .ref x;ŧ .int 1;Ũ codes x;ũ .ref it;Ū h1=>?_;ū ae è ah;Ŭ ae(pv 5)ah;ŭ bz K H;Ů upd H a;ů bh L.pl T.cP T.mX;Ű w hw=>BP rx fx r fs w Å;ű ent(rawInt L)T;Ų .ref T;ų upd(Ů(exc C od Ų a))T ű;Ŵ pB CK H pk;ŵ jd X.env.cells scope.names;Ŷ ⟨Á,?_⟩;ŷ ⟨_,Á,Á,_,Á,?_⟩;Ÿ y.m.take i;Ź y.m.map List.length;ź vs.map toV;Ż start N vs;ż oJ ms rows;Ž nj Ñ p.m;ž ie K;ſ envOfC cY scope s.heap.objs.size f cd;ϊ ai.refl H;ϋ aE(a0 rj);ό aD ĳ(aE(fg Ú ú rfl));ύ aA 0;ώ .lst(iv(nv x.ns));Ϗ .cI od í;ϐ .bool(lexLt ns ms);ϑ .Name x p;ϒ nO qX rfl;ϓ m3 K mg;ϔ .ref D;ϕ .cI od u;ϖ .builtin id;ϗ lY aF P w K mg base;Ϙ b o hb e=>eb b o hb e;ϙ vg.map codes;Ϛ ms.getD i fq;ϛ eval e X.env;Ϝ dX(iD(cq e)(I.ok.xN x c IY hc));ϝ b.map B;Ϟ aA 1;ϟ .lst(iv(line.take j));Ϡ .ins C dx fs;ϡ .Compare a[op][b]pos;Ϣ upd H l;ϣ upd H T;Ϥ HT.lexLt ns ms;ϥ PE X e;Ϧ xs.map PyData.int;ϧ .fresh 0 0(iy w);Ϩ upd H' Tt;ϩ qx H H' p;Ϫ y hy=>?_;ϫ qJ ms m.classes d m.ak;Ϭ ae ĸ ah;ϭ I.base.free b o e n hx;Ϯ .error e;ϯ .cI o ē;ϰ Fv cY scope s.heap.objs.size f cd;ϱ jB x.zs p.fW bits;ϲ gO K C;ϳ aa X.K H;ϴ PySem.mem_of_lookup e;ϵ Inv X pins σ' H';϶ ⟨_,Á,Á,_,Á,ite_yes Á ?_⟩;Ϸ v.gs.map ck.m;ϸ ae(cj cB)ah;Ϲ e K q=>?_;Ϻ yf hr.units;Àa keywordEach[]X.env;Àb iD(cq e)I.ok.above;Àc Flags.lacks left(l.map ö)s;Àd .lst(iv(nv sames));Àe .Name x pos;Àf b hb u hu=>?_;Àg oH sames left;Àh fO X.prog X.w;Ài dY X.prog X.w;Àj _ _ p=>Bool.noConfusion p;Àk ı scope f aI A outer s H E;Àl ws.getD 0[];Àm importedModules P.main.body;Àn .tup xs;Ào .lst xs;Àp vU I hg hm;Àq ps.zip us;Àr model P w;Às x hx=>?_;Àt z.m.take i;Àu intKind prog w;Àv fk.zero hD;Àw eC p.eF sg⟨D,ĕ same⟩;Àx cQ c8 è bp Ø;Ày .ref y.a;Àz .dK[];Áa compEnvC scope cl C X.env;Áb I.base.keep b o e n hb hx;Ác upd H2 D ä;Ád t.map B;Áe s1.trans s2;Áf past.map oK;Ág p.map B;Áh nv(List.range G);Ái fs.lookup f;Áj ae(bg è rfl)ah;Ák aY st;Ál Codec.inInt 0 255;Ám eM C p;Án dec lf(sm b);Áo compareOp .Eq;Áp ⟨?_,?_⟩;Áq i v Tt H' hi f hT=>?_;Ár h2=>?_;Ás _ _ _ _ _=>dy 8 pF.nd;Át r.map ö;Áu jC rows x;Áv compareOp .NotEq;Áw .int i t;Áx ⟨I1.fQ,?_⟩;Áy l x ih=>?_;Áz c v hc q=>k c v ?_ q;Âa upd H0 pl Ϗ;Âb t.map cont;Âc some Ć;Âd ps.map V.ref;Âe cQ c8 â(jt j6 bp)Ø;Âf bj å Ý s;Âg aE(a0 zy);Âh PySem.mem_of_lookup hy;Âi A2(i6 qw);Âj .ref r;Âk .lst ys;Âl .ins C dx[];Âm i H' hi f=>?_;Ân .tup(k.map kV);Âo rg C s.heap.objs.size;Âp i=>bs.getD i false;Âq b o e nb=>?_;Âr some u;Âs lI Ò tE õ;Ât kHook kK kA kE;Âu h pins s σ H Q I hw;Âv e9 P w;Âw dec lf s;Âx bo Ş dQ;Ây TP X pins σ Q;Âz PySem.W.instObj C dx;Ãa Ck hr.units;Ãb .ref p.a;Ãc .ref l;Ãd .int i;Ãe iv part;Ãf .dT kvs;Ãg b=>sames.getD b 0;Ãh setNext a slot i ep;Ãi au(Eh ho hd hf ?_);Ãj _ v x _=>?_;Ãk es.map bu.row;Ãl b=>qu.contains b;Ãm b=>lK.contains b;Ãn _ _ _ _=>trivial;Ão upd H' d u;Ãp tK CL CK l;Ãq some v;Ãr pv 6;Ãs ng rows ō;Ãt name.map B;Ãu cK.zero cg;Ãv aA 4;Ãw I1.ax.fresh(bw _);Ãx I.B4 hd mu;Ãy .lst(iv(nv row));Ãz l s ih=>?_;Äa iV=>?_;Äb b v _ q=>q;Äc _=>rfl;Äd _ _=>False;Äe _ _ _ _ _=>pv 2;Äf upd H1 c(nY c o);Äg upd H0 d Àz;Äh tC ő;Äi sm b;Äj setAttr Ŧ name v;Äk qs.map V.ref;Äl pv 5;Äm pL CE e;Än ms.map V.int;Äo ms.map PyData.int;Äp jA Í y.m.flatten;Äq g i j;Är eval o X.env;Äs eO q hn;Ät dec å s;Äu compareOp op;Äv bg â Á;Äw ae Ļ ah;Äx ae ċ ah;Äy BI X pins σ tg R;Äz .ref z.a;Åa .ref lb;Åb .ref la;Åc o8 t i;Åd e9 prog w;Åe dX(cq e);Åf Builtin.bitNot i;Åg .own x;Åh .cI vt ī;Åi upd H e1 ä;Åj tC ŧ;Åk s1.trans s3;Ål p.eF.map gY;Åm ls.map eK.m;Ån i6 st;Åo eW Ú;Åp dj aU;Åq b.ns.take j;År SP X pins D;Ås b o e=>cf _ e;Åt pv 7;Åu places.getD i 0;Åv mV p;Åw gE C;Åx cQ zK Ãr bp Ø;Åy .dK(uX[]kvs);Åz qI CV v;Æa nY cx o;Æb j8 D Nx;Æc iv line;Æd c.map B;Æe .tup ys;Æf .int 32;Æg q hq=>?_;Æh m hm=>?_;Æi b o nb g=>?_;Æj _=>aE Ĥ;Æk H3 f=>?_;Æl H2 f=>?_;Æm vi È;Æn upd H d ϕ;Æo uO s₁.heap H;Æp s1.free hx;Æq rawInt L;Ær pH ms rows;Æs oS(rk è);Æt l5 x;Æu l.map ö;Æv hb 0 v0 Å rfl;Æw gE C g;Æx eX y.m z.m;Æy eW â;Æz eV y;Ça cj cS;Çb cQ c8 Ú bp Ø;Çc bj lf Ý s;Çd bV r ta tb;Çe aE(a0 è);Çf L.getD b 0;Çg K w.params;Çh I1.ax.fresh i5;Çi I.j4 x c e;Çj .tup[x,y];Çk .str x;Çl .ref b.a;Çm .lst o;Çn .dT(rO[]ts);Ço y.m.getD i[];Çp tupleKind Âv;Çq iv(nv e.row);Çr exc C od Ų a;Çs compareOp .Lt;Çt .tup[kV k,v];Çu upd H x o;Çv uh p.side;Çw topStub P;Çx pyNext ũ;Çy ns.take i;Çz ms.map rW;Èa iv(nv l);Èb e.trans z;Èc cA Ĭ;Èd bg ú rfl;Èe bY hb;Èf aN he;Èg .cI od Ţ;Èh .Name g p;Èi ⟨t1,t2,?_⟩;Èj j q' e=>?_;Èk _=>?_;Èl yt.map codes;Èm xs.map V.int;Èn upd H2 d Åh;Èo upd H' pl í;Èp tupleKind ĉ;Èq some x;Èr n.map B;Ès ms.getD f fq;Èt eT m.classes;Èu bo(aA 5)dQ;Èv bj lf Ý s g;Èw aA 7;Èx List.range n;Èy .ref q;Èz .ref e;Éa .ref d;Éb .ref ap;Éc .inr Á;Éd .cI o u"
def mX(x:Syntax)(a:Array Syntax):MacroM Syntax:=let n:=x.getId.toString;if n.front.toNat>191 then match mT tb n with
|some s=>pure (if a.isEmpty then s else if s.isOfKind (nT "app") then mP s[0] (s[1].getArgs++a) else mP s a)
|_=>Macro.throwUnsupported else Macro.throwUnsupported
def mM(p:Syntax):Syntax:=mN (nC "rcasesPatMed") #[mkNullNode #[p]]
def mE(x:Syntax):Array Syntax:=if x.isOfKind (nT "tuple") then #[x[1][0],mkAtom ","]++x[1][2].getArgs else x[1].getArgs
def mD(x:Syntax):Syntax:=if x.isOfKind (nT "tuple") then mN (nT "anonymousCtor") #[mkAtom "⟨",mkNullNode (mE x),mkAtom "⟩"] else x
def mC:Nat->Syntax->Syntax
|0,x=>x
|n+1,x=>let k s a:=mN (.str (nC "rcasesPat") s) a;if x.isIdent then k "one" #[x] else if x.getArgs.size<2 then k "ignore" #[x[0]] else k "tuple" #[mkAtom "⟨",mkNullNode ((mE x).map λy=>if y.isAtom then y else mN (nC "rcasesPatLo") #[mM (mC n y),mkNullNode]),mkAtom "⟩"]
def mK(s a:String)(x:Syntax):MacroM Syntax:=pure ((x.setKind (nC s)).setArg 0 (mkAtom a))
def mH:Nat->Syntax->Bool
|0,_=>false
|n+1,x=>x.isOfKind (nT "syntheticHole")||x.getArgs.any (mH n)
def sf:List (String×String):=[("Z","heap.objs.size"),("O","objs.size"),("U","heap.get?"),("o","heap.push"),("L","length"),("M","map"),("R","trans"),("Q","lookup"),("I","get?"),("D","getD"),("Y","contains"),("E","same"),("J","filter"),("H","heap"),("X","range"),("u","size")]
def mQ(z:Bool):Name->Name
|.str p s=>if p.isAnonymous&&z then .str p s else match sf.lookup s with|some t=>(t.splitOn ".").foldl .str (mQ z p)|_=>.str (mQ z p) s
|n=>n
def mV:Nat->Syntax->Syntax
|0,x=>x
|n+1,x=>if x.isIdent then let m:=mQ true x.getId;if m==x.getId then x else mkIdent m else if x.isOfKind (nT "proj")&&x[2].isIdent then (x.setArg 0 (mV n x[0])).setArg 2 (mkIdent (mQ false x[2].getId)) else x
def mY(x:Syntax)(a:Array Syntax):MacroM Syntax:=let y:=mV 9 x;if y==x then (if x.isIdent then mX x a else Macro.throwUnsupported) else pure (if a.isEmpty then y else mP y a)
end MP_
local macro_rules(kind:=ident)|x=>MP_.mY x #[]
local macro_rules(kind:=Lean.Parser.Term.proj)|x=>MP_.mY x #[]
local macro_rules(kind:=Lean.Parser.Term.app)|x=>MP_.mY x[0] x[1].getArgs
local macro_rules(kind:=Lean.Parser.Tactic.tacticLet__)|x=>let d:=x[2][0];if d.isOfKind (MP_.nT "letPatDecl") then pure (MP_.mN (MP_.nC "obtain") #[Lean.mkAtom "obtain",Lean.mkNullNode #[MP_.mM (MP_.mC 9 d[0])],Lean.mkNullNode,Lean.mkNullNode #[Lean.mkAtom ":=",Lean.mkNullNode #[d[4]]]]) else MP_.mK "tacticHave__" "have" x
local macro_rules(kind:=Lean.Parser.Tactic.apply)|x=>if MP_.mH 99 x then MP_.mK "refine" "refine" (x.setArg 1 (MP_.mD x[1])) else Lean.Macro.throwUnsupported
local macro_rules(kind:=Lean.Elab.Tactic.Ext.ext)|x=>pure (MP_.mN (MP_.nC "unfold") #[Lean.mkAtom "unfold",Lean.mkNullNode (x[1].getArgs.map λy=>y[0][0]),Lean.mkNullNode])
local macro_rules(kind:=Lean.Parser.Tactic.delta)|x=>MP_.mK "unfold" "unfold" x
local macro_rules|`(tactic|symm)=>`(tactic|simp_all)
local macro_rules(kind:=Lean.Parser.Tactic.exact)|x=>if x[1].isOfKind (MP_.nT "tuple") then pure (x.setArg 1 (MP_.mD x[1])) else Lean.Macro.throwUnsupported
local macro_rules(kind:=Lean.Parser.Tactic.show)|x=>match MP_.mT MP_.tb x[1].getId.toString with|some s=>pure (MP_.mN (MP_.nC "intro") #[Lean.mkAtom "intro",Lean.mkNullNode (#[s[0]]++s[1].getArgs)])|_=>Lean.Macro.throwUnsupported
set_option hygiene false
local macro_rules
|`(Δ)=>`(by k_is)
|`(Ε)=>`(by kernel_rfl)
|`(Ζ)=>`(by repeat' constructor)
|`(Ä)=>`(by simp)
|`(Å)=>`(by simp_all)
|`(È)=>`(by decide+kernel)
|`(Î)=>`(s.Z+1)
|`(Ò)=>`(by rfl)
|`(Ô)=>`(by lia)
|`(Ù)=>`(by decide)
|`(Ý)=>`((s,B)::r)
|`(á)=>`(by omega)
|`(é)=>`(cellsFrom (s3.Z+1) scope.names (jd X.env.cells scope.names []))
|`(ê)=>`((·.map B))
|`(ì)=>`(λz=>by simp_all)
|`(ð)=>`(⟨λi m σ H=>m=xs.L-i/\i<=xs.L/\Pv i σ H,⟨xs.L,by simp,du _,h0⟩,?_⟩)
|`(À $x)=>`(by simpa using $x)
local macro_rules
|`(tactic|show ë)=>`(tactic|obtain⟨f0,f1,f2,f3,f4,f5⟩:=hf it Ä)
noncomputable section
local macro_rules(kind:=Lean.Parser.Command.declaration)|x=>if (x[1][0].getAtomVal="def"||x[1][0].getAtomVal="abbrev")&&x[0].getArgs.all (·.isNone) then pure (x.setArg 0 (x[0].setArg 4 (Lean.mkNullNode #[MP_.mN `Lean.Parser.Command.noncomputable #[Lean.mkAtom "noncomputable"]]))) else Lean.Macro.throwUnsupported
namespace A_
def af:=@if_pos
def ag:=@if_neg
def au:=@PySem.wpAny_bind
def az:=@List.length_map
def aO:=@Option.some.inj
def aP:=@PySem.wpAny_pure
def aQ:=@List.mem_cons_of_mem
def aV:=@List.mem_cons
def a8:=@List.map_cons
def bw:=@Nat.le_refl
def bO:=@List.getElem?_eq_some_iff
def bU:=@List.getElem?_map
def bY:=@List.mem_of_getElem?
def bZ:=@List.map_append
def b9:=@List.mem_map
def cf:=@PySem.Heap.get?_push_of_some
def cq:=@PySem.Heap.lt_size
def cw:=@congrArg
def cZ:=@List.map_map
def c7:=@List.getElem?_eq_getElem
def df:=@List.length_cons
def dj:=@Ne.symm
def du:=@Nat.zero_le
def dX:=@Nat.ne_of_lt
def d8:=@Bool.false_ne_true
def eN:=@decide_eq_true
def eY:=@PySem.Heap.get?_push_size
def fZ:=@decide_eq_false
def gn:=@List.mem_cons_self
def gq:=@List.length_range
def gM:=@List.mem_append
def gS:=@Nat.le_trans
def g7:=@List.sum_cons
def ip:=@List.getD_eq_getElem?_getD
def iD:=@Nat.lt_of_lt_of_le
def iU:=@PySem.wpAny_mono
def jo:=@PySem.wpAny_loadPart'
def jq:=@Bool.and_eq_true
def jF:=@List.mem_filter
def jG:=@List.append_nil
def jZ:=@List.nodup_cons
def k9:=@List.find?_cons
def lg:=@List.mem_singleton
def lh:=@List.map_congr_left
def lj:=@List.not_mem_nil
def lp:=@or_false
def lr:=@List.mem_flatMap
def lU:=@Bool.false_and
def lV:=@List.all_eq_true
def lW:=@Bool.true_and
def mj:=@PySem.Heap.size_push
def ml:=@Array.length_toList
def mq:=@List.length_append
def mr:=@List.map_nil
def nB:=@List.length_take
def nD:=@decide_eq_true_eq
def nE:=@List.take_length
def oN:=@Nat.lt_of_le_of_lt
def pW:=@Bool.eq_iff_iff
def pX:=@List.any_eq_true
def qR:=@PySem.codeAny_mono
def qS:=@Nat.ne_of_gt
def qT:=@Nat.lt_irrefl
def qU:=@Nat.le_of_lt
def qV:=@List.getElem_of_mem
def qW:=@List.append_assoc
def qX:=@PySem.PassesOwn.never
def su:=@PySem.wpAny_setField
def sv:=@PySem.Obj.data_mapFields
def sy:=@List.length_nil
def sA:=@List.size_toArray
def sC:=@List.all_cons
def sD:=@List.all_map
def sE:=@of_decide_eq_true
def uA:=@PySem.wpAny_loadPart_at
def uB:=@PySem.wpAny_newObj_type
def uD:=@PySem.Heap.get?_update_other
def uE:=@Array.getElem?_eq_some_iff
def uF:=@PySem.sizeLine_eq
def uG:=@List.mem_range
def uH:=@PySem.wpAny_truthy_bool
def uI:=@List.mem_append_right
def uJ:=@List.any_cons
def vI:=@PySem.wpAny_field
def vJ:=@PySem.Heap.SameBut.update
def vK:=@beq_iff_eq
def vL:=@List.lookup_cons
def vM:=@PySem.codeAny_builtin
def vN:=@PySem.plainId_quiet
def vO:=@Bool.and_eq_true_iff
def xA:=@PySem.Heap.get?_update_self
def xB:=@Int.toNat_natCast
def xD:=@beq_eq_false_iff_ne
def xE:=@PySem.wpAny_Call_Name_kw
def xF:=@Nat.lt_succ_of_lt
def xG:=@PySem.Around.under_plainId
def xH:=@Nat.zero_add
def xI:=@List.ext_getElem?
def xJ:=@List.filter_cons
def zf:=@Option.map_eq_some_iff
def zg:=@PySem.wpAny_holding
def zh:=@PySem.wpAny_call
def zi:=@PySem.wpAny_rule
def zj:=@Bool.and_false
def zk:=@Array.getElem?_toList
def zl:=@List.getElem?_eq_none
def zm:=@PyProof.Rows.boot_all
def zo:=@List.filter_map
def zp:=@List.nil_append
def Be:=@List.contains_cons
def Bf:=@Nat.le_of_eq
def Bg:=@PySem.wpAny_call_entry
def Bh:=@List.mem_append_left
def Bi:=@PySem.wpAny_passesOwn
def Bj:=@Nat.le_succ
def Bk:=@Nat.lt_trans
def Bl:=@Nat.lt_or_ge
def Bm:=@List.pairwise_cons
def Bn:=@List.getLast?_append
def Bo:=@List.flatMap_append
def Bp:=@List.dropLast_subset
def Bq:=@List.nodup_nil
def Br:=@List.filter_cons_of_pos
def Bs:=@List.filter_cons_of_neg
def DZ:=@PySem.Obj.isFreed_of_fields
def D0:=@List.filterMap_cons
def D1:=@PySem.wpAny_execs_nil
def D4:=@PyProof.Rows.callWith_type1
def D5:=@Nat.lt_succ_self
def D6:=@PySem.Calls.spliced_cons
def D7:=@List.of_mem_zip
def Ea:=@List.zip_cons_cons
def Ec:=@if_true
def Ed:=@List.range_succ_eq_map
def Ee:=@Option.isSome_map
def Ef:=@PySem.tupleKind_room_in1
def Eg:=@PySem.call_meetsIn
def Eh:=@PySem.wpAny_setState_of
def Ei:=@List.getElem_mem
def Ej:=@Bool.not_not
def Ek:=@List.mem_of_getLast?
def El:=@List.filter_append
def Em:=@List.flatMap_cons
def En:=@List.contains_iff_mem
def Eo:=@Nat.testBit_and
def Ep:=@Nat.testBit_lt_two_pow
def Er:=@Option.bind_some
def Ii:=@List.mem_filterMap
def Ij:=@Option.isSome_iff_exists
def Ik:=@List.getElem?_append_left
def Il:=@PySem.Calls.callWith_builtin
def Im:=@PySem.call_meets
def Io:=@List.take_of_length_le
def Ip:=@Bool.false_eq_true
def Iq:=@if_false
def Ir:=@Option.map_some
def Iu:=@PySem.wpAny_Call_method
def Iv:=@List.nodup_append
def Iw:=@List.take_append_drop
def Iy:=@List.findIdx?_eq_some_iff_getElem
def Iz:=@List.pairwise_map
def IA:=@List.mapM_cons
def IB:=@List.mem_of_mem_take
def IC:=@List.getLast?_singleton
def ID:=@decide_eq_false_iff_not
def IE:=@List.length_filter_le
def IF:=@List.range_succ
def IG:=@Int.natCast_nonneg
def IH:=@Nat.pow_le_pow_right
def II:=@List.getElem?_zip_eq_some
def IJ:=@List.foldl_cons
def IK:=@Int.le_refl
def PZ:=@PySem.wpAny_isSubtype_exc
def P0:=@PySem.wpAny_callSpecial?_slot
def P1:=@PySem.F.slot_tuple_iterator_next
def P2:=@PySem.wpAny_seqItems
def P3:=@PySem.Obj.cls_mapFields
def P4:=@PySem.wpAny_of_eq
def P5:=@PySem.wpAny_throw
def P6:=@PySem.Heap.get?_none_of_le
def P7:=@PySem.wpAny_execs_cons
def P8:=@PySem.wpAny_pyIter_list
def P9:=@PySem.Calls.spliced_nil
def Qa:=@List.getElem?_append_right
def Qb:=@PySem.richCompare_meets_room
def Qc:=@PySem.Calls.evalArgs_plain
def Qe:=@List.any_map
def Qg:=@PySem.pushCells_keeps
def Qh:=@Nat.le_of_succ_le
def Qi:=@PySem.wpAny_standAt
def Qj:=@Bool.false_or
def Qk:=@PySem.wpAny_typeOf
def Ql:=@PySem.wpAny_pyIter_enum
def Qm:=@Bool.and_self
def Qn:=@PySem.SeqAt.canLay_of_shaped
def Qo:=@PySem.wpAny_isInstance
def Qp:=@List.getElem?_drop
def Qq:=@List.length_eq_zero_iff
def Qr:=@List.getElem?_of_mem
def Qs:=@List.mem_of_mem_drop
def Qt:=@List.pairwise_lt_range
def Qu:=@PySem.intKind_is
def Qv:=@PySem.typeLookup_type
def Qw:=@PySem.builtinLookup_eq_fast
def Qx:=@Bool.not_false
def Qy:=@List.map_drop
def Qz:=@List.take_succ_cons
def QA:=@Nat.pow_succ
def QB:=@List.getElem?_range
def QC:=@Bool.and_true
def QD:=@List.flatten_cons
def QE:=@Classical.byContradiction
def QF:=@decide_eq_true_iff
def Zf:=@PySem.Code.quiet_builtin
def Zg:=@PySem.wpAny_typeLookup_exc
def Zh:=@PySem.codeAny_of_tree
def Zi:=@Bool.or_true
def Zj:=@PySem.codeAny_call_builtin
def Zk:=@PySem.wpAny_handled
def Zl:=@PySem.wpAny_pyIter_tuple
def Zm:=@List.getElem_inj
def Zn:=@List.getElem?_set_self
def Zo:=@List.getElem?_set_ne
def Zt:=@PySem.plainObj_wpAny_Assign_Attribute
def Zu:=@List.getElem?_take_of_lt
def Zw:=@List.length_drop
def Zx:=@List.length_dropLast
def Zz:=@Bool.or_eq_true
def ZA:=@PySem.Heap.DictOf.new
def ZC:=@Nat.add_le_add_left
def ZD:=@Nat.add_zero
def ZE:=@Nat.lt_of_not_le
def ZF:=@PySem.fits_of_scanBound
def ZG:=@PyProof.Rows.F.plain_set_update_loop
def ZH:=@PyProof.Rows.firstMet_length_le
def ZJ:=@PySem.wpAny_askSetting
def ZK:=@Nat.mod_lt
def ZL:=@PySem.isSubtype_type
def ZM:=@PySem.wpAny_setEntries_of
def ZN:=@List.ext_getElem
def ZO:=@PySem.wpAny_ite_split
def ZP:=@Bool.or_false
def ZQ:=@beq_self_eq_true
def ZR:=@List.findIdx?_cons
def ZS:=@List.mem_map_of_mem
def ZT:=@List.exists_cons_of_length_eq_add_one
def ZU:=@Nat.succ.inj
def ZV:=@List.filterMap_append
def ZW:=@List.zip_append
def ZX:=@Int.zero_add
def ZY:=@List.drop_eq_nil_of_le
def ZZ:=@List.zip_map_right
def Z0:=@decide_eq_decide
def Z1:=@List.nodup_range
def Z2:=@List.filter_congr
def Z3:=@PySem.W.Codec.inNat_iff
def arh:=@PySem.F.entry_tuple_iterator_next
def ari:=@PySem.F.args_tuple_iterator_next_1
def aro:=@PySem.Calls.Name_function_global
def arz:=@PySem.wpAny_newFunctionEnv_cells
def arA:=@PyProof.Rows.callWith_builtin1
def arC:=@PySem.AutoSeq1.sub_tuple_tuple
def arF:=@Option.isSome_some
def arG:=@Array.getElem?_eq_none
def arI:=@List.getElem?_cons_zero
def arJ:=@List.getElem?_cons_succ
def arN:=@PySem.wpAny_letOwnedTupleGo_enum
def arP:=@of_decide_eq_false
def arR:=@List.getElem_range
def arU:=@List.findIdx?_eq_none_iff
def arX:=@List.length_eraseIdx_of_lt
def ar0:=@List.getElem?_toArray
def ar5:=@Int.toNat_of_nonneg
def ar7:=@List.getLast?_eq_none_iff
def ar8:=@Function.comp_apply
def ar9:=@List.filter_eq_nil_iff
def asa:=@List.pairwise_filter
def asd:=@List.Sublist.nodup
def ase:=@Nat.eq_of_testBit_eq
def asf:=@Nat.testBit_two_pow_self
def ash:=@Classical.not_forall
def asi:=@List.mem_eraseDups
def asj:=@Nat.testBit_two_pow_add_gt
def asl:=@Nat.testBit_two_pow_add_eq
def asm:=@List.find?_cons_of_neg
def asn:=@Nat.pos_of_ne_zero
def aso:=@List.filter_sublist
def asp:=@List.dropLast_concat
def asq:=@Nat.lt_or_eq_of_le
end A_
open A_
namespace OH
open PySem PySem.Calls PySem.W PyProof.Rows
def runT(j:String->Option Builtin)(P:Program)(W:World)(m:Nat)(F:Option Value):Nat->SharedT->Thread->Option SharedT
 |0,_,_=>none
 |k+1,x,y=>match through y with
  |true=>some x
  |false=>match stepOk m F y with
   |false=>none
   |true=>match stepT (denote j) P W x y with
    |some z=>runT j P W m F k z.1 z.2
    |none=>none
theorem Z4{j:String->Option Builtin}{P:Program}{W:World}{m:Nat}{F:Option Value}:∀(k:Nat)(x z:SharedT)(y:Thread),runT j P W m F k x y=Α z->topRun j P W m F k x.abs y=Α z.abs:=by
 intro k;induction k with
 |zero=>intro x z y h;cases h
 |succ k J=>
  intro x z y h;delta runT at h;ext topRun;cases e1:through y with
  |true=>
   rw[e1] at h;cases h;rfl
  |false=>
   rw[e1] at h;cases e2:stepOk m F y with
   |false=>rw[e2] at h;cases h
   |true=>
    rw[e2] at h;dsimp only at h⊢;cases e3:stepT (denote j) P W x y with
    |none=>rw[e3] at h;cases h
    |some v=>
     rw[e3] at h;rw[stepT_spec (s':=v.1) (t':=v.2) e3];exact J _ _ _ h
def treeOf(l:List Obj):BT:=(l.foldl (λ(x:BT×Nat)o=>(x.1.ins x.2 o,x.2+1)) (.nil,0)).1
def startT (W:World) (O:OsState):SharedT:=⟨treeOf (boot_heap W.params).objs.toList,(boot_heap W.params).objs.toList.length,(boot_heap W.params).life,Array.mk [],boot_drawn,boot_toks,O⟩
def zq (W:World) (O:OsState):Shared:=⟨boot_heap W.params,Array.mk [],boot_drawn,boot_toks,O⟩
def Z5(W:World)(O:OsState):(startT W O).abs=zq W O:=by
 kernel_rfl
def keptAt (P:Program) (W:World) (x:Shared):Bool:=staticsOk Àm (boot_heap W.params) x.H&&namesBound P x.H&&gensDone x&&laidKept (boot_heap W.params) x.H
def looksAt (P Q:Program) (lo:List Str) (Xt:Shared->Bool) {α:Type} (Yf:Shared->α) (W:World) (x:Shared):=
 (keptAt P W x,openSeen Q lo Àm Xt true x,Yf x)
def Z6{P:Program}{W:World}{N m:Nat}{F:Option Value}{O:OsState}{z:Shared}(j:((boot_heap W.params).isNs mainGlobals,(boot_heap W.params).O,(boot_heap W.params).nsMap mainGlobals "__annotations__")=(true,m,F))(run:topRun treeTable P W m F N (zq W O) Çw=Α z) (kept:keptAt P W z=true):topFrom treeTable P W N (zq W O)=Α z:=by
 let J:(boot_heap W.params).isNs mainGlobals=true:=cw Prod.fst j;let U:(boot_heap W.params).O=m:=cw (λx=>x.2.1) j;let Y:(boot_heap W.params).nsMap mainGlobals "__annotations__"=F:=cw (λx=>x.2.2) j;subst U;subst Y;let g:((zq W O).H.isNs mainGlobals&&(zq W O).gens.size==0)=true:=by
  show((boot_heap W.params).isNs mainGlobals&&true)=true;rw[J];rfl
 ext topFrom;rw[g];show(topRun treeTable P W (boot_heap W.params).O ((boot_heap W.params).nsMap mainGlobals "__annotations__") N (zq W O) Çw).bind _=Α z;rw[run];show(match keptAt P W z with|true=>some z|false=>none)=Α z;rw[kept]
def Z7{P Q:Program}{lo:List Str}{Xt:Shared->Bool}{α:Type}{Yf:Shared->α}{Ya:World->α}{N:Nat}{m:Nat}{F:Option Value}{M:Nat}(e:opening P=plainProg P.main.scope.names) (hN:Nat.ble 600 N=true) (f:∀s,fenceModules? P s=Α s)(j:∀W:World,((boot_heap W.params).isNs mainGlobals,(boot_heap W.params).O,(boot_heap W.params).nsMap mainGlobals "__annotations__")=(true,m,F))(le:Nat.ble M N=true)(fin:∀(W:World)(O:OsState),(runT treeTable P W m F M (startT W O) Çw).M (λs=>looksAt P Q lo Xt Yf W s.abs)=Α (true,openGood Q lo,Ya W)):LeftO P Q lo Xt Yf Ya N:=by
 intro W;let((h,gs,d,k,O),o1,o2):=zf.mp (boot_open e hN f W);cases o2;let(z,r1,J):=zf.mp (fin W O);let U:=Z4 _ _ _ _ r1;rw[Z5] at U;let Y:=topRun_mono (N-M) _ _ _ _ U;let hM:M+(N-M)=N:=Nat.add_sub_cancel' (Nat.le_of_ble_eq_true le);rw[hM] at Y;let Z:keptAt P W z.abs=true:=cw Prod.fst J;let c2:(openSeen Q lo Àm Xt true z.abs,Yf z.abs)=(openGood Q lo,Ya W):=cw Prod.snd J;let t:topFrom treeTable P W N ⟨boot_heap W.params,Array.mk [],boot_drawn,boot_toks,O⟩=Α z.abs:=Z6 (j W) Y Z;ext openEnds;rw[o1];show Option.map _ (topFrom treeTable P W N ⟨boot_heap W.params,Array.mk [],boot_drawn,boot_toks,O⟩)=_;rw[t];exact cw some c2
lay_quick OH.runT
def Z8(W:World):((boot_heap W.params).isNs mainGlobals,(boot_heap W.params).O,(boot_heap W.params).nsMap mainGlobals "__annotations__")=(true,11,some (.ref 6)):=by
 kernel_rfl
def Z9{P Q:Program}{lo:List Str}{Xt:Shared->Bool}{α:Type}{Yf:Shared->α}{Ya:World->α}{N:Nat}(e:opening P=plainProg P.main.scope.names) (j:Nat.ble 600 N=true) (f:∀s,fenceModules? P s=Α s)(fin:∀(W:World)(O:OsState),(PySem.W.Fast.tw1264388230241321415 PySem.W.Fast.tw14364793385576792824 P W 11 (some (.ref 6)) N (startT W O) Çw).M (λs=>looksAt P Q lo Xt Yf W s.abs)=Α (true,openGood Q lo,Ya W)):LeftO P Q lo Xt Yf Ya N:=
 Z7 e j f Z8 (Nat.ble_eq_true_of_le (bw N)) λW O=>by
  rw[PySem.W.Fast.te1264388230241321415,PySem.W.Fast.te14364793385576792824];exact fin W O
end OH
namespace L2
open PySem PySem.Spec PyProof.Rows
def inClass(s:Stmt)(j:Nat):Stmt:=match s with
 |.ClassDef _ _ _ gZ _ _ _ _ _ _ _=>gZ.D j (.Pass ⟨0,0,0,0⟩)
 |_=>.Pass ⟨0,0,0,0⟩
def uK(s:Stmt):Arguments:=match s with
 |.FunctionDef _ a _ _ _ _ _ _ _ _=>a
 |_=>{posonlyargs:=[],args:=[],vararg:=Β,kwonlyargs:=[],kw_defaults:=[],kwarg:=Β,defaults:=[]}
def i6(s:Stmt):List Stmt:=match s with
 |.FunctionDef _ _ b _ _ _ _ _ _ _=>b
 |_=>[]
def aY(s:Stmt):Scope:=match s with
 |.FunctionDef _ _ _ _ _ _ sc _ _ _=>sc
 |_=>{kind:=.function,names:=[],isGenerator:=false,isCoroutine:=false}
end L2
namespace HD
open PySem PySem.Spec PyProof.Rows L2
def top(i:Nat):Stmt:=PySem.Challenge.pw_halfseendesk_s05_entries.main.body.getD i (.Pass ⟨0,0,0,0⟩)
@[reducible]def kf(n q:Str)(st:Stmt)(m c:Value):Obj:=⟨.type "function",none,.func (PySem.W.fnOf n q (uK st) Ån Ák .none .none .none m none c .none),#[]⟩
@[reducible]def ke(P:Params)(x:Str)(t:Nat)(v:Value):DictEntry:=⟨PyData.keyHash P x,.str x t,v⟩
@[reducible]def kc(n q:Str)(t:Nat)(l c:Int)(r:Nat)(x y:Value)(e:Nat)(d:Nat):Obj:=⟨.type "code",none,.fields #[.str n t,.str q (t+1),.str "/claim/cut.py" (t+2),.int l 0,.int c 0,.int 0 0,.int 0 0,.int 3 0,.ref r,.bool true,.int 181 0,.ref (r+1),.none,x,y,.ref e,.int d 0,.int l 0,.str "/claim/cut.py" (d+1)],#[]⟩
@[reducible]def kd(n:Str)(t:Nat)(l c:Int)(r:Nat)(x y:Value)(e:Nat)(d:Nat):Obj:=kc n n t l c r x y e d
@[reducible]def km(t:Nat):Str:=if t=187 then "halfseendesk.looks" else if t=214 then "halfseendesk.texts" else if t=292 then "halfseendesk.lockers" else if t=470 then "halfseendesk.platetexts" else if t=712 then "halfseendesk.sights" else if t=796 then "halfseendesk.displays" else if t=904 then "halfseendesk.books" else if t=1044 then "halfseendesk.readings" else "halfseendesk.plates"
@[reducible]def kg(n:Str)(i t r:Nat):Obj:=kf n n (top i) (.str (km t) t) Âj
@[reducible]def kr(P:Params)(x:Str)(t r:Nat):DictEntry:=ke P x t Âj
@[reducible]def ki(P:Params)(x:Str)(v:Int)(t:Nat):DictEntry:=ke P x (t+1) (.int v t)
@[reducible]def kx(P:Params)(a m:Nat)(l:Int)(e r f:Nat):Obj:=⟨.type "dict",none,.dict #[ke P "__module__" a (.str (km m) m),ke P "__firstlineno__" (a+4) (.int l (a+3)),kr P "__init__" e r,kr P "__static_attributes__" f (r+1),kr P "__dict__" (f+2) (r+4),kr P "__weakref__" (f+4) (r+5),ke P "__doc__" (f+5) .none] 4,#[]⟩
@[reducible]def ky(P:Params)(a m:Nat)(l:Int)(r:Nat):Obj:=⟨.type "dict",none,.dict #[ke P "__module__" a (.str (km m) m),ke P "__firstlineno__" (a+4) (.int l (a+3)),kr P "__static_attributes__" (a+5) r,kr P "__weakref__" (a+7) (r+3),ke P "__doc__" (a+8) .none] 3,#[]⟩
@[reducible]def kt(n:Str)(r s t:Nat):Obj:=⟨.type "type",none,.cls ⟨n,[.type "object"],[.ref r,.type "object"],s,n,true,[],[],false,none,false⟩,#[none,none,some (.str n t),some (.str n (t+8)),some (.builtin "object.__new__"),some (.bool true)]⟩
@[reducible]def ku(n:Str)(r s x t:Nat):Obj:=⟨.type "type",none,.cls ⟨n,[.type "Exception"],[.ref r,.type "Exception",.type "BaseException",.type "object"],s,n,true,[],[],false,none,false⟩,#[some Ŧ,none,some (.str n t),some (.str n (t+8)),some (.builtin "Exception.__new__"),some (.bool true)]⟩
@[reducible]def kj(q:Str)(i t r:Nat):Obj:=kf "__init__" q (inClass (top i) 0) (.str (km t) t) Âj
@[reducible]def kh(q:Str)(t:Nat)(l c:Int)(r:Nat)(x y:Value)(e:Nat)(d:Nat):Obj:=kc "__init__" q t l c r x y e d
@[reducible]def kv(n:Str)(t:Nat)(l c:Int)(r d:Nat):Obj:=kd n t l c r (.ref (r+2)) (.ref (r+3)) (r+4) d
@[reducible]def kn(n:Str)(t:Nat)(l c:Int)(r d:Nat):Obj:=kh n t l c r (.ref (r+2)) (.ref (r+3)) (r+4) d
@[reducible]def kw(n:Str)(t:Nat)(l c:Int)(r d:Nat):Obj:=kd n t l c r .none .none (r+2) d
local macro_rules(kind:=Lean.Parser.Term.tuple)|x=>if x[1][0].isOfKind Lean.numLitKind then pure (x.setArg 1 (x[1].setArg 0 (MP_.mN `rawNatLit #[Lean.mkAtom "nat_lit",x[1][0]]))) else Lean.Macro.throwUnsupported
def kK (P:Params):PySem.W.Frag:=
 (3,⟨(.type "dict"),none,(.dict #[ke P "__name__" 165 (.str "halfseendesk.plates" 1135),ke P "__doc__" 166 .none,ke P "__package__" 167 .none,ke P "__loader__" 168 (.builtin "__main__.__loader__#opaque"),ke P "__spec__" 169 .none,kr P "__annotations__" 170 6,kr P "__builtins__" 171 4,ke P "__file__" 173 (.str "/claim/cut.py" 172),ke P "__cached__" 174 .none,kr P "SHAPES" 192 15,ki P "FRONT" 0 193,ki P "BEHIND" 1 195,ki P "CELLS" 16 197,ki P "ROW" 4 199,kr P "cell_behind" 207 22,kr P "cells_seen" 213 27,ki P "MOST_BYTES" 65536 216,ki P "LINE_END" 10 218,ki P "BLANK" 32 220,ke P "COLOUR_SIGNS" 223 (.str "0123456789abcdef" 222),ke P "NAME_SIGNS" 225 (.str "ABCDEFGHIJKLMNOPQRSTUVWXYZ0123456789" 224),ki P "LONGEST_NAME" 8 226,kr P "spelled" 233 32,kr P "cut" 243 39,kr P "whole_lines" 252 46,kr P "place_among" 262 53,kr P "places_in" 268 58,kr P "read_colours" 275 65,kr P "is_name" 282 72,kr P "name_behind" 291 79,ki P "SIGN" 0 294,ki P "SAME" 1 296,kr P "ROLES" 301 80,kr P "WORDS_OF_ROLES" 305 81,ki P "MOST_COPIES" 8 306,ki P "MOST_SAME" 4 308,ki P "MOST_SIGNS" 48 310,ki P "DIGIT_ZERO" 48 312,kr P "NoLocker" 333 91,kr P "Kind" 372 111,kr P "Locker" 403 132,kr P "read_locker" 409 141,kr P "read_name" 416 148,kr P "read_digit" 424 155,kr P "read_kind" 438 162,kr P "are_in_order" 444 561,kr P "are_in_order_lockers" 445 167,kr P "may_follow" 453 174,kr P "are_different" 459 179,kr P "has_twice" 465 184,ki P "MOST_HOISTS" 4 466,ki P "MOST_FLAGS" 8 468,kr P "SIDES" 475 185,ki P "UNKNOWN_SIDE" 2 476,kr P "HOIST_LINES" 482 186,kr P "SEEN_SHAPES" 487 187,ke P "SEEN_SIGNS" 489 (.str "0123456789abcdef?" 488),ki P "UNSEEN_SHAPE" 3 490,ki P "UNSEEN_CELL" 16 492,ki P "SIDE_LINE" 0 494,ki P "HOIST_LINE" 1 496,ki P "SHAPE_LINE" 2 498,ki P "CELLS_LINE" 3 500,ki P "NO_SUCH_LINE" 1 502,ki P "WRONG_PLACE" 2 504,kr P "NoPlate" 536 204,kr P "Sighting" 567 224,kr P "Glimpse" 600 245,kr P "Plate" 633 266,kr P "read_plate" 646 277,kr P "read_line" 656 284,kr P "read_side" 666 291,kr P "read_row" 673 298,kr P "may_stand" 681 305,kr P "lacks_flags" 688 312,kr P "lacks_cells" 695 319,kr P "has_whole_hoists" 702 326,kr P "put" 711 333,kr P "sighting_of" 722 340,kr P "View" 753 357,kr P "view_of" 759 366,kr P "kinds_along" 765 371,kr P "kinds_that_look_so" 771 376,kr P "may_be" 777 381,kr P "fits" 783 386,kr P "hoist_fits" 789 391,kr P "fits_at" 795 396,kr P "Plan" 830 413,kr P "display_told" 836 422,kr P "copies_lacking" 842 427,kr P "sames_along" 848 432,kr P "bits_of_sames" 854 437,kr P "places_of" 867 444,kr P "plan_of" 873 449,kr P "places_outside" 879 454,kr P "copies_in" 885 459,kr P "hoist_told" 891 464,kr P "flag_told" 897 469,kr P "hang" 903 474,ki P "TITLE_LINES" 2 906,ki P "MOST_ENTRIES" 2048 908,ki P "LONGEST_MEANING" 64 910,ki P "FULL_STOP" 46 912,ki P "LAST_PRINTED" 126 914,kr P "NoBook" 935 484,kr P "Entry" 966 504,kr P "Book" 997 525,kr P "read_book" 1003 534,kr P "numbers_of_signs" 1009 539,kr P "read_entry" 1018 546,kr P "read_signs" 1024 551,kr P "read_meaning" 1030 556,kr P "are_in_order_books" 1037 561,kr P "can_be_shown" 1043 566,ki P "MOST_IN_DOUBT" 1024 1046,kr P "TooMuchInDoubt" 1067 576,kr P "Reading" 1100 596,kr P "readings_of" 1106 605,kr P "entries_in_doubt" 1112 610,kr P "product" 1121 617,kr P "all_rows" 1127 622,kr P "sides_of" 1134 629,kr P "Finding" 1171 646,kr P "entries" 1182 657,kr P "entries_told" 1188 662,kr P "answered" 1199 669,kr P "found" 1211 676] 127),#[]⟩)::
 (15,⟨(.type "tuple"),none,(.seq #[(.str "square" 189),(.str "tails" 190),(.str "long" 191)] 0),#[]⟩)::
 (21,kv "cell_behind" 201 7 1 16 205)::
 (22,kg "cell_behind" 6 187 21)::
 (26,kw "cells_seen" 208 9 3 23 211)::
 (27,kg "cells_seen" 7 187 26)::
 (31,kw "spelled" 228 20 1 28 231)::
 (32,kg "spelled" 15 214 31)::
 (38,kv "cut" 234 22 2 33 241)::
 (39,kg "cut" 16 214 38)::
 (45,kv "whole_lines" 244 30 1 40 250)::
 (46,kg "whole_lines" 17 214 45)::
 (52,kv "place_among" 253 34 2 47 260)::
 (53,kg "place_among" 18 214 52)::
 (57,kw "places_in" 263 39 2 54 266)::
 (58,kg "places_in" 19 214 57)::
 (64,kv "read_colours" 269 44 1 59 273)::
 (65,kg "read_colours" 20 214 64)::
 (71,kv "is_name" 276 48 1 66 280)::
 (72,kg "is_name" 21 214 71)::
 (78,kv "name_behind" 283 50 2 73 289)::
 (79,kg "name_behind" 22 214 78)::
 (80,⟨(.type "tuple"),none,(.seq #[(.str "sign" 298),(.str "same" 299),(.str "answer" 300)] 0),#[]⟩)::
 (81,⟨(.type "tuple"),none,(.seq #[(.int 5 302),(.int 5 303),(.int 4 304)] 0),#[]⟩)::
 (90,ky P 321 292 64 89)::
 (91,ku "NoLocker" 91 90 82 314)::
 (107,kn "Kind.__init__" 346 68 7 102 356)::
 (108,kj "Kind.__init__" 33 292 107)::
 (110,kx P 341 292 66 358 108 365)::
 (111,kt "Kind" 111 110 334)::
 (128,kn "Locker.__init__" 385 77 3 123 391)::
 (129,kj "Locker.__init__" 34 292 128)::
 (131,kx P 380 292 75 393 129 396)::
 (132,kt "Locker" 132 131 373)::
 (140,kw "read_locker" 404 80 1 137 407)::
 (141,kg "read_locker" 35 292 140)::
 (147,kv "read_name" 410 89 1 142 414)::
 (148,kg "read_name" 36 292 147)::
 (154,kv "read_digit" 417 93 2 149 422)::
 (155,kg "read_digit" 37 292 154)::
 (161,kv "read_kind" 425 97 1 156 436)::
 (162,kg "read_kind" 38 292 161)::
 (166,kw "are_in_order" 439 110 1 163 442)::
 (167,kg "are_in_order" 39 292 166)::
 (173,kv "may_follow" 446 116 2 168 451)::
 (174,kg "may_follow" 41 292 173)::
 (178,kw "are_different" 454 120 1 175 457)::
 (179,kg "are_different" 42 292 178)::
 (183,kw "has_twice" 460 124 1 180 463)::
 (184,kg "has_twice" 43 292 183)::
 (185,⟨(.type "tuple"),none,(.seq #[(.str "front" 472),(.str "behind" 473),(.str "unknown" 474)] 0),#[]⟩)::
 (186,⟨(.type "tuple"),none,(.seq #[(.str "hoist" 478),(.str "hoist above" 479),(.str "hoist below" 480),(.str "hoist above below" 481)] 0),#[]⟩)::
 (187,⟨(.type "tuple"),none,(.seq #[(.str "square" 483),(.str "tails" 484),(.str "long" 485),(.str "shape?" 486)] 0),#[]⟩)::
 (200,kn "NoPlate.__init__" 518 144 3 195 524)::
 (201,kj "NoPlate.__init__" 60 470 200)::
 (203,⟨(.type "dict"),none,(.dict #[ke P "__module__" 513 (.str "halfseendesk.platetexts" 470),ke P "__firstlineno__" 517 (.int 142 516),ke P "__init__" 526 (.ref 201),ke P "__static_attributes__" 529 (.ref 202),ke P "__weakref__" 531 (.ref 205),ke P "__doc__" 532 .none] 3),#[]⟩)::
 (204,ku "NoPlate" 204 203 188 506)::
 (220,kn "Sighting.__init__" 549 150 3 215 555)::
 (221,kj "Sighting.__init__" 61 470 220)::
 (223,kx P 544 470 148 557 221 560)::
 (224,kt "Sighting" 224 223 537)::
 (241,kn "Glimpse.__init__" 580 155 4 236 587)::
 (242,kj "Glimpse.__init__" 62 470 241)::
 (244,kx P 575 470 153 589 242 593)::
 (245,kt "Glimpse" 245 244 568)::
 (262,kn "Plate.__init__" 613 161 4 257 620)::
 (263,kj "Plate.__init__" 63 470 262)::
 (265,kx P 608 470 159 622 263 626)::
 (266,kt "Plate" 266 265 601)::
 (276,kv "read_plate" 634 165 1 271 644)::
 (277,kg "read_plate" 64 470 276)::
 (283,kv "read_line" 647 181 1 278 654)::
 (284,kg "read_line" 65 470 283)::
 (290,kv "read_side" 657 187 1 285 664)::
 (291,kg "read_side" 66 470 290)::
 (297,kv "read_row" 667 196 1 292 671)::
 (298,kg "read_row" 67 470 297)::
 (304,kv "may_stand" 674 200 2 299 679)::
 (305,kg "may_stand" 68 470 304)::
 (311,kv "lacks_flags" 682 208 1 306 686)::
 (312,kg "lacks_flags" 69 470 311)::
 (318,kv "lacks_cells" 689 210 1 313 693)::
 (319,kg "lacks_cells" 70 470 318)::
 (325,kv "has_whole_hoists" 696 214 1 320 700)::
 (326,kg "has_whole_hoists" 71 470 325)::
 (332,kv "put" 703 216 3 327 709)::
 (333,kg "put" 72 470 332)::
 (339,kv "sighting_of" 714 227 3 334 720)::
 (340,kg "sighting_of" 74 712 339)::
 (353,kn "View.__init__" 735 231 3 348 741)::
 (354,kj "View.__init__" 75 712 353)::
 (356,kx P 730 712 229 743 354 746)::
 (357,kt "View" 357 356 723)::
 (365,kw "view_of" 754 234 3 362 757)::
 (366,kg "view_of" 76 712 365)::
 (370,kw "kinds_along" 760 237 2 367 763)::
 (371,kg "kinds_along" 77 712 370)::
 (375,kw "kinds_that_look_so" 766 239 2 372 769)::
 (376,kg "kinds_that_look_so" 78 712 375)::
 (380,kw "may_be" 772 241 2 377 775)::
 (381,kg "may_be" 79 712 380)::
 (385,kw "fits" 778 245 3 382 781)::
 (386,kg "fits" 80 712 385)::
 (390,kw "hoist_fits" 784 247 3 387 787)::
 (391,kg "hoist_fits" 81 712 390)::
 (395,kw "fits_at" 790 252 3 392 793)::
 (396,kg "fits_at" 82 712 395)::
 (409,kn "Plan.__init__" 810 257 4 404 817)::
 (410,kj "Plan.__init__" 84 796 409)::
 (412,kx P 805 796 255 819 410 823)::
 (413,kt "Plan" 413 412 798)::
 (421,kw "display_told" 831 261 2 418 834)::
 (422,kg "display_told" 85 796 421)::
 (426,kw "copies_lacking" 837 271 2 423 840)::
 (427,kg "copies_lacking" 86 796 426)::
 (431,kw "sames_along" 843 277 3 428 846)::
 (432,kg "sames_along" 87 796 431)::
 (436,kw "bits_of_sames" 849 279 4 433 852)::
 (437,kg "bits_of_sames" 88 796 436)::
 (443,kv "places_of" 855 282 2 438 865)::
 (444,kg "places_of" 89 796 443)::
 (448,kw "plan_of" 868 288 4 445 871)::
 (449,kg "plan_of" 90 796 448)::
 (453,kw "places_outside" 874 297 2 450 877)::
 (454,kg "places_outside" 91 796 453)::
 (458,kw "copies_in" 880 299 3 455 883)::
 (459,kg "copies_in" 92 796 458)::
 (463,kw "hoist_told" 886 301 3 460 889)::
 (464,kg "hoist_told" 93 796 463)::
 (468,kw "flag_told" 892 303 3 465 895)::
 (469,kg "flag_told" 94 796 468)::
 (473,kw "hang" 898 311 4 470 901)::
 (474,kg "hang" 95 796 473)::
 (483,ky P 923 904 327 482)::
 (484,ku "NoBook" 484 483 475 916)::
 (500,kn "Entry.__init__" 948 331 3 495 954)::
 (501,kj "Entry.__init__" 103 904 500)::
 (503,kx P 943 904 329 956 501 959)::
 (504,kt "Entry" 504 503 936)::
 (521,kn "Book.__init__" 979 336 3 516 985)::
 (522,kj "Book.__init__" 104 904 521)::
 (524,kx P 974 904 334 987 522 990)::
 (525,kt "Book" 525 524 967)::
 (533,kw "read_book" 998 339 2 530 1001)::
 (534,kg "read_book" 105 904 533)::
 (538,kw "numbers_of_signs" 1004 351 1 535 1007)::
 (539,kg "numbers_of_signs" 106 904 538)::
 (545,kv "read_entry" 1010 353 2 540 1016)::
 (546,kg "read_entry" 107 904 545)::
 (550,kw "read_signs" 1019 358 2 547 1022)::
 (551,kg "read_signs" 108 904 550)::
 (555,kw "read_meaning" 1025 363 1 552 1028)::
 (556,kg "read_meaning" 109 904 555)::
 (560,kw "are_in_order" 1031 369 1 557 1034)::
 (561,kg "are_in_order" 110 904 560)::
 (565,kw "can_be_shown" 1038 373 2 562 1041)::
 (566,kg "can_be_shown" 112 904 565)::
 (575,ky P 1055 1044 377 574)::
 (576,ku "TooMuchInDoubt" 576 575 567 1048)::
 (592,kn "Reading.__init__" 1080 381 4 587 1087)::
 (593,kj "Reading.__init__" 116 1044 592)::
 (595,kx P 1075 1044 379 1089 593 1093)::
 (596,kt "Reading" 596 595 1068)::
 (604,kw "readings_of" 1101 385 3 601 1104)::
 (605,kg "readings_of" 117 1044 604)::
 (609,kw "entries_in_doubt" 1107 397 2 606 1110)::
 (610,kg "entries_in_doubt" 118 1044 609)::
 (616,kv "product" 1113 402 1 611 1119)::
 (617,kg "product" 119 1044 616)::
 (621,kw "all_rows" 1122 407 1 618 1125)::
 (622,kg "all_rows" 120 1044 621)::
 (628,kv "sides_of" 1128 417 1 623 1132)::
 (629,kg "sides_of" 121 1044 628)::
 (642,kn "Finding.__init__" 1149 422 5 637 1157)::
 (643,kj "Finding.__init__" 123 1135 642)::
 (645,kx P 1144 1135 420 1159 643 1164)::
 (646,kt "Finding" 646 645 1137)::
 (656,kv "entries" 1172 427 4 651 1180)::
 (657,kg "entries" 124 1135 656)::
 (661,kw "entries_told" 1183 429 2 658 1186)::
 (662,kg "entries_told" 125 1135 661)::
 (668,kv "answered" 1189 434 4 663 1197)::
 (669,kg "answered" 126 1135 668)::
 (675,kv "found" 1200 448 3 670 1209)::
 (676,kg "found" 127 1135 675)::[]
def kA:List Addr:=[3,15,21,22,26,27,31,32,38,39,45,46,52,53,57,58,64,65,71,72,78,79,80,81,90,91,107,108,110,111,128,129,131,132,140,141,147,148,154,155,161,162,166,167,173,174,178,179,183,184,185,186,187,200,201,203,204,220,221,223,224,241,242,244,245,262,263,265,266,276,277,283,284,290,291,297,298,304,305,311,312,318,319,325,326,332,333,339,340,353,354,356,357,365,366,370,371,375,376,380,381,385,386,390,391,395,396,409,410,412,413,421,422,426,427,431,432,436,437,443,444,448,449,453,454,458,459,463,464,468,469,473,474,483,484,500,501,503,504,521,522,524,525,533,534,538,539,545,546,550,551,555,556,560,561,565,566,575,576,592,593,595,596,604,605,609,610,616,617,621,622,628,629,642,643,645,646,656,657,661,662,668,669,675,676]
def kQ:Program:=PySem.W.view PySem.Challenge.pw_halfseendesk_s05_entries [1,2,3,4,5,6,7,9,10,11,12,13,14,15,16,17,18,19,20,21,22,24,25,26,27,28,29,30,31,32,33,34,35,36,37,38,40,41,42,43,44,45,47,48,49,50,51,52,53,54,55,56,57,58,59,60,61,62,63,64,65,66,67,68,69,70,71,72,74,75,76,77,78,79,80,81,82,84,85,86,87,88,89,90,91,92,93,94,95,97,98,99,100,101,102,103,104,105,106,107,108,109,110,111,112,114,115,116,117,118,119,120,121,123,124,125,126,127]
def kE(P:Params):kA=(kK P).M (·.1):=by kernel_rfl
abbrev kL:List Str:=["are_in_order_lockers","are_in_order_books"]
abbrev kX:Shared->Bool:=λs=>PySem.W.xlAt kQ [] s&&PySem.W.recOk [] s
abbrev kR (w:World) (os:OsState):=PySem.W.Fast.tw1264388230241321415 PySem.W.Fast.tw14364793385576792824 PySem.Challenge.pw_halfseendesk_s05_entries w 11 (some (.ref 6)) 11214 (OH.startT w os) (PySem.W.topStub PySem.Challenge.pw_halfseendesk_s05_entries)
section
open PySem.Calls PySem.W
@[reducible] def QG:OpenLaw:=⟨PySem.Challenge.pw_halfseendesk_s05_entries,"",[],0,none,none,true⟩
abbrev Bt:List Str:=["are_in_order_lockers","are_in_order_books","SHAPES","ROLES","WORDS_OF_ROLES","SIDES","HOIST_LINES","SEEN_SHAPES"]
def kZN:looseW kQ kL=Bt:=by kernel_rfl
def qY(w:World)(os:OsState):(kR w os).M (λs=>(s.abs.H.bltView,plainSeenD kQ kL s.abs,clsSeenW kQ kL s.abs,(s.abs.H.accountedOkI (importedModules PySem.Challenge.pw_halfseendesk_s05_entries.main.body),s.abs.H.isNs mainGlobals,s.abs.H.isNs builtinsNs),(kX s.abs,s.abs.gens.u==0),OH.keptAt PySem.Challenge.pw_halfseendesk_s05_entries w s.abs,pinSeenD kQ (drecsOf kQ) s.abs,Hook.obs Ât s.abs))=Α (bltViewBooted,plainGoodD kQ kL,clsGoodW kQ kL,(true,true,true),(true,true),true,pinGoodD (drecsOf kQ),Hook.val Ât w):=by kernel_rfl
def oO(w:World)(os:OsState):(kR w os).M (λs=>(seen ((recsOf kQ).M (·.name)) (ownsOf kQ) [] {s.abs with gens:= #[]},plainSeenE kQ Bt s.abs))=Α (expectedOf kQ,plainGoodE kQ Bt):=by kernel_rfl
def qZ(w:World)(os:OsState):(kR w os).M (λs=>(s.abs.H.keysOk Bt ((recsOf kQ).M (·.name)) ((litsOf kQ).M (·.1)) ((clssOf kQ Bt).M (·.name)),tablesOk kQ s.abs.H))=Α (true,true):=by kernel_rfl
def Bu(w:World)(os:OsState):(kR w os).M (λs=>(tabsOk kQ s.abs))=Α (true):=by kernel_rfl
def QH(w:World)(os:OsState):(kR w os).M (λs=>(wideSeen kQ s.abs))=Α (wideGood kQ):=by kernel_rfl
def nF{α β:Type}{x:Option α}{z:α}{f:α->β}{b:β}(r:x=Α z)(h:x.M f=Α b):f z=b:=by
 rw[r] at h;exact aO h
def aab{A B C D E F G H I J K:Type}{a O:A}{b U:B}{c W:C}{d d':D}{e Y:E}{f Z:F}{g g':G}{h h':H}{i i':I}{j j':J}{k k':K}(h1:a=O)(h2:b=U)(h3:c=W)(h4:d=d')(h5:e=Y)(h6:f=Z)(h7:g=g')(h8:h=h')(h9:i=i')(m:j=j')(z:k=k'):
  (a,(b,c,d,e,f,g,h,i,j),k)=(O,(U,W,d',Y,Z,g',h',i',j'),k'):=by
 cases h1;cases h2;cases h3;cases h4;cases h5;cases h6;cases h7;cases h8;cases h9;cases m;cases z;rfl
def aae:LeftO PySem.Challenge.pw_halfseendesk_s05_entries kQ kL kX (Hook.obs Ât) (Hook.val Ât) 11214:=
 OH.Z9 (by kernel_rfl) Ò (λs=>by kernel_rfl) λw os=>by
  let(z,r,_):=zf.mp (qY w os);rw[show PySem.W.Fast.tw1264388230241321415 PySem.W.Fast.tw14364793385576792824 PySem.Challenge.pw_halfseendesk_s05_entries w 11 (some (.ref 6)) 11214 (OH.startT w os) (PySem.W.topStub PySem.Challenge.pw_halfseendesk_s05_entries)=Α z from r];let j:=nF r (qY w os);let F:=cw (λx=>x.1) j;let J:=cw (λx=>x.2.1) j;let O:=cw (λx=>x.2.2.1) j;let m:=cw (λx=>x.2.2.2.1) j;let QI:=cw (λx=>x.2.2.2.2.1) j;let U:=cw (λx=>x.2.2.2.2.2.1) j;let Y:=cw (λx=>x.2.2.2.2.2.2.1) j;let Z:=cw (λx=>x.2.2.2.2.2.2.2) j;let g1:=nF r (oO w os);let aal:=cw (λx=>x.1) g1;let QJ:=cw (λx=>x.2) g1;let g2:=nF r (qZ w os);let QK:=cw (λx=>x.1) g2;let aam:=cw (λx=>x.2) g2;let g3:=nF r (Bu w os);let aan:=g3;let g4:=nF r (QH w os);let aao:=g4;rw[<-kZN] at QK QJ;dsimp only at*;apply cw some (aab U aal F ?_ aan Y QJ J aao O Z);let a1:=cw (λx=>x.1) m;let a2:=cw (λx=>x.2.1) m;let a3:=cw (λx=>x.2.2) m;let b1:=cw (λx=>x.1) QI;let b2:=cw (λx=>x.2) QI;dsimp only at a1 a2 a3 b1 b2;show(_&&_&&_&&_&&_&&_&&(z.abs.gens.u==0))=true;rw[QK,a1,a2,a3,aam,b1,b2];rfl
end
end HD
abbrev LI:=List Int
abbrev LN:=List Nat
abbrev bq:=List (List Nat)
abbrev dm:=List (List Int)
abbrev FR:=PySem.W.Frag
abbrev MG:=PySem.Str->Option PySem.Value
abbrev OA:=Option PySem.Addr
abbrev LV:=List PySem.Value
abbrev LS:=List PySem.Str
abbrev AO:=Array (Option PySem.Value)
abbrev VP:=PySem.Value->PySem.Shared->Prop
abbrev bJ:=List (PySem.Addr×PySem.Obj)
abbrev cu:=List (Nat×Nat)
abbrev eZ:=List (PySem.Str×PySem.Addr)
abbrev LA:=List PySem.Addr
abbrev Sh:=PySem.Shared
abbrev Pg:=PySem.Program
abbrev Wd:=PySem.World
abbrev FD:=PySem.FuncData
namespace PySem
namespace XL
abbrev rg(C t:Addr):Obj:={cls:=.ref C,data:=.fields #[.ref t,.none,.none,.none,.bool false,.none]}
abbrev oP(bT:LV):Obj:={cls:=.type "tuple",data:=.seq bT.toArray}
def aap(x:Addr)(R:Result->Shared->Prop)(r:Result)(s':Sh):Prop:=match r with
 |.ok (.ret v)=>v=.none/\R (.ok (.ret Ŧ)) s'
 |.ok _=>False
 |.error e=>R Ϯ s'
section
variable{prog:Pg}{w:Wd}{A:Around}{E:VP}{h:Heap}{g:Array GenState}{d:Drawn}{t:Nat}{os:OsState}
def aaq(F:ExcBaseFacts B newId initId bm)(j:h.I C=Α ė) (hn:h.Ns N mN) (xK:mN "__init__"=Α (.ref fI)) (Z:h.I fI=Α oF) (W:oF.cls=.type "function")(hq:codeAny Ë A (.call (.ref fI) ⟨.ref (h.O+1)::bT,[]⟩) (λr s'=>match r with
   |.ok (.ret v)=>v=.none/\Q (.done (.ret (.ref (h.O+1)))) s'
   |.ok _=>False
   |.error e=>E e s') ⟨(h.push (oP bT)).push Ŋ,g,d,t,os⟩) (hrest:bT.L<=sizeLine:=by size_fits):
  wpAny Ë A (Builtin.«type.__call__» ⟨.ref C::bT,[]⟩) Q E ⟨h,g,d,t,os⟩:=by
 repeat (first|with_reducible apply uA j ?_|with_reducible apply wpAny_madeBy_exc j ?_|wp_step)
 apply codeAny_call_builtin_code (Zf _ F.quiet) (wpAny_check_new_sub F j ?_);apply codeAny_exc_new_sub F j ?_ hrest;let m:=cf Ŋ (cf (oP bT) j);let O:=cf Ŋ (cf (oP bT) Z);let U:((h.push (oP bT)).push Ŋ).Ns N mN:=
  let ⟨o,es,ep,e,r⟩:=hn;⟨o,es,ep,cf _ (cf _ e),r⟩
 let J:((h.push (oP bT)).push Ŋ).I (h.O+1)=Α Ŋ:=by heap_get
 let Y:(Value.ref C::bm).Y ą=true:=by simp
 ext isInstance
 repeat (first|with_reducible apply uA J ?_|(with_reducible apply PZ m ?_;rw[Y])|wp_step)
 apply Zg m U F.mroIs F.init.Q ?_;rw[xK];apply zg (au ?_);ext bindSpecial typeOf
 repeat (first|(with_reducible apply uA O ?_;rw[W])|wp_step)
 apply qR hq λr s' z=>?_;rcases r with e|(_|v|_|_) <;> first|exact z|exact z.elim|skip
 all_goals (let(rfl,z):=z;exact aP (aP z))
def aas(F:ExcBaseFacts B newId initId bm)(j:h.I C=Α ė) (O:h.Ns N mN) (W:mN "__init__"=Α (.ref fI)) (J:h.I fI=Α oF) (m:oF.cls=.type "function")(U:codeAny Ë (A.under (.builtin "type.__call__" ⟨.ref C::bT,[]⟩)) (.call (.ref fI) ⟨.ref (h.O+1)::bT,[]⟩) (aap (h.O+1) R) ⟨(h.push (oP bT)).push Ŋ,g,d,t,os⟩) (hrest:bT.L<=sizeLine:=by size_fits):
  codeAny Ë A (.call ą ⟨bT,[]⟩) R ⟨h,g,d,t,os⟩:=by
 let Y:=tc_lookup;let Z:=tc_bind ą;let hT:(⟨h,g,d,t,os⟩:Sh).TypeIs ą "type":=⟨_,j,rfl⟩;apply Zh ?_
 repeat (any_goals (first|assumption|with_reducible apply uA j ?_|wp_step))
 refine Ŷ;apply codeAny_call_builtin_at (Zf _ È) entry_typeCall (wpAny_check_type_call_sub j (aaq (hrest:=hrest) F j O W J m (qR U λr s' z=>?_)));rcases r with e|(_|v|_|_) <;> exact z
end
def aat(uL:bm.Y (.type "BaseException")=true)(Z:A.handled=Β)(h:Ś x (λv j=>∃e O vs,v=.ref e/\j.U C=Α ė/\
   j.U e=Α O/\O.cls=.ref C/\O.data=.fields vs/\vs[1]? =Α .none/\E Èz j) E s):
  wpAny M A (raiseStmt env Èq none) Q E s:=by
 let F:(Value.ref C::bm).Y (.type "BaseException")=true:=by rw[Be,uL,Zi]
 ext raiseStmt;apply au (iU h (λv j h₁=>?_) λ_ _ x=>x);let(e,O,vs,rfl,m,Y,z,hd,U,W):=h₁;let(hp,g,d,tk,os):=j;let(oc,od,J,nG):=O;obtain rfl:oc=.ref C:=z;obtain rfl:J=.fields vs:=hd
 repeat (first|with_reducible apply uA Y ?_|with_reducible apply uA m ?_|(with_reducible apply PZ m ?_;rw[F])|wp_step)
 rw[U];apply aP ?_;rw[ag Ù];exact aP (wpAny_raiseNew_none Z W)
section
variable{prog:Pg}{w:Wd}{A:Around}{E:VP}{h:Heap}{g:Array GenState}{d:Drawn}{t:Nat}{os:OsState}
def aau(F:ExcBaseFacts B newId initId bm)(z:h.I C=Α ù) (m:h.I x=Α oe) (hc:oe.cls=.ref C) (hd:oe.data=.fields vs) (hz:0<vs.u)(J:Q .none ⟨(h.push (oP [])).update x (Obj.mapFields (·.setIfInBounds 0 (.ref h.O))),g,d,t,os⟩):
  wpAny Ë A (call (.builtin initId) [.ref x]) Q E ⟨h,g,d,t,os⟩:=by
 let j:=cf (oP []) m;apply zh (Zj F.init.plain F.initEntry (wpAny_check_init_sub F z m hc ?_));delta Builtin.«BaseException.__init__»
 repeat (any_goals (first|assumption|wp_step))
 rw[hd];apply aP ?_;rw[show vs[0]? =Α vs[0] from Array.getElem?_eq_getElem hz];apply aP (au (su j hd hz ?_));cases vs[0] <;> (wp_walk;exact J)
end
end XL
end PySem
namespace PySem
namespace XL
structure IS(fr:LA)(z e T:Addr)(oe:Obj)(fl:Value)(h h':Heap):Prop where
 new:h.O<=T
 ne:T≠e
 keep:∀b o,b∉fr->b≠e->b≠z->h.I b=Α o->h'.I b=Α o
 slot:∀b o,b∈fr->b≠e->b≠z->h.I b=Α o->∃sl,h'.I b=Α {o with slots:=sl}
 exc:h'.I e=Α (oe.mapFields (·.setIfInBounds 1 Ų))
 ent:∃oT ts,h'.I T=Α oT/\oT.data=.fields ts/\ts[3]? =Α fl
def QL{base:Heap}{env:Env}{outer:List Env}{L e z:Addr}{O:Obj}{vs:Array Value}{head:Value}{hn:Bool}{Q:Unit->Shared->Prop}(fs:A.frames=Α (env::outer)) (W:s.H.FunFrames base (env::outer)) (Z:env.frame=Α L) (ge:s.U e=Α O) (U:O.data=.fields vs) (ze:1<vs.u)(k:∀h' T,IS ((env::outer).filterMap (·.frame)) z e T O Æq s.H h'->Q () {s with heap:=h'}):
  wpAny M A (do
   let a <-frameOf env
   let pl <-entryPlaceOf L hn
   let b <-EntryCells.newEntry head a .none Æq .none pl
   setField Èz 1 b) Q E s:=by
 let nf:e∉(env::outer).filterMap (·.frame):=λm=>by
  let(_,o,j,g2):=W.mem m;symm
 apply au (wpAny_frameOf_fun fs W Z λg gs=>au (wpAny_entryPlaceOf λpl hp=>?_));ext EntryCells.newEntry newFields;apply au (uB ?_ (hp.sizeOk5 _ _ _ _ _));let j:=(gs.2.1 e nf).R ge;let g2:=cf (h:=g) {cls:=.type "traceback",dict:=Β,data:=.fields ([head,.ref L,.none,rawInt L,.none]++(if pl.isEmpty then List.replicate 6 Value.none else pl)).toArray} j;let te:=qS (cq j);apply su g2 U ze (k _ g.O ⟨Bf gs.1.symm,te,λb o Y J _ F=>?_,λb o Y J _ F=>?_,?_,?_⟩)
 .rw[uD _ _ (dj J)];exact cf _ ((gs.2.1 b Y).R F)
 .let(sl,g4):=gs.2.2 b o F;exact(sl,by rw[uD _ _ (dj J)];exact cf _ g4)
 .exact xA _ g2 (DZ (sv U _))
 .apply(_,_,(uD _ _ (dj te)).R (eY g Á),Á,?_);rfl
def aav{base:Heap}{env:Env}{outer:List Env}{L e z:Addr}{O:Obj}{vs:Array Value}{Q:Unit->Shared->Prop}(fs:A.frames=Α (env::outer)) (U:s.H.FunFrames base (env::outer)) (F:env.frame=Α L) (m:s.U e=Α O) (j:O.data=.fields vs) (J:vs[1]? =Α .none)(k:∀h' T,IS ((env::outer).filterMap (·.frame)) z e T O Æq s.H h'->Q () {s with heap:=h'}):Ś (noteFrame Èz env) Q E s:=by
 ext noteFrame;simp only[F];apply au (vI m j J ?_);rw[ag Ù];exact QL fs U F m j (uE.mp J).1 k
def aaw{base:Heap}{env:Env}{outer:List Env}{L e z:Addr}{oe oz:Obj}{vs zs:Array Value}{Q:Unit->Shared->Prop}(fs:A.frames=Α (env::outer)) (ff:s.H.FunFrames base (env::outer)) (fL:env.frame=Α L) (ge:s.U e=Α oe) (de:oe.data=.fields vs) (h1:vs[1]? =Α (.ref z))(O:s.U z=Α oz) (J:oz.data=.fields zs) {fl:Value} (h3:zs[3]? =Α fl) (gr:(fl==rawInt L)=false) (Y:z≠e)(k:∀h' T,IS ((env::outer).filterMap (·.frame)) z e T oe Æq s.H h'->T≠z->(∃o ts,h'.I z=Α o/\o.data=.fields ts/\ts[3]? =Α .none)->Q () {s with heap:=h'}):Ś (noteFrame Èz env) Q E s:=by
 let zz:=(uE.mp h3).1;ext noteFrame;simp only[fL];apply au (vI ge de h1 ?_);rw[af (show(Value.ref z !=Value.none)=true by simp)];apply au (vI O J h3 ?_);rw[ag (show ¬((fl==rawInt L)=true) by simp_all)];apply au (su O J zz ?_);let U:∀b,b≠z->(s.H.update z (Obj.mapFields (·.setIfInBounds 3 Value.none))).I b=s.U b:=λb n=>uD _ _ (dj n);let gz':(s.H.update z (Obj.mapFields (·.setIfInBounds 3 Value.none))).I z=_:=xA _ O (DZ (sv J _));let W:∀b o,s.U b=Α o->(∀ws,o.data≠ .fields ws)->b≠z:=λb o j g2 q=>by
  symm
 let Z:=ff.of_keeps (h':=s.H.update z (Obj.mapFields (·.setIfInBounds 3 Value.none))) λb o j g2=>⟨o,(U b (W b o j g2)).R j,rfl⟩;let nfz:z∉(env::outer).filterMap (·.frame):=λm=>by
  let(_,o,j,g2):=ff.mem m;symm
 apply QL (z:=e) fs Z fL ((U e (dj Y)).R ge) de (uE.mp h1).1 λh' T n=>?_;let nn:s.Z<=T:=by
  let:=n.new;symm
 let tz:T≠z:=λq=>absurd (cq O) Å;let Es:=n.keep z _ nfz Y Y gz';exact k h' T ⟨nn,n.ne,λb o n1 F n3 j=>n.keep b o n1 F F ((U b n3).R j),λb o n1 F n3 j=>n.slot b o n1 F F ((U b n3).R j),n.exc,n.ent⟩ tz
  ⟨_,_,Es,sv J _,by simp[zz]⟩
end XL
end PySem
namespace PySem
namespace XL
open Builtin.ObjectAttr
section
variable{prog:Pg}{w:Wd}{A:Around}{E:VP}{h:Heap}{g:Array GenState}{d:Drawn}{t:Nat}{os:OsState}
def aaB{tk:Tok}{o:Obj}{Q:Fin->Shared->Prop}(z:StoreFacts B bm sa owner)(J:h.I C=Α ù) (hn:h.Ns N mN) (uM:mN name=Β) (hB:typeLookup (.type B) name=pure none)(j:h.I x=Α o) (cx:o.cls=.ref C) (nx:∀c,o.data≠ .cls c) (dx:o.dict=Β)(k:∀h' j0,h'.Ns1 h.O (λy=>if y=name then some v else none)->h'.I x=Α {o with dict:=Α h.O}->(∀b O,b≠x->h.I b=Α O->h'.I b=Α O)->Q (.done (.ret .none)) ⟨h',g,d,j0,os⟩):
  wpAny Ë A (Builtin.«object.__setattr__» ⟨[.ref x,.str name tk,v],[]⟩) Q E ⟨h,g,d,t,os⟩:=by
 let ps:=z.passes Ŧ;delta Builtin.«object.__setattr__»
 repeat (first|rw[refuse_eq]|(rw[refuseLoop_ref,ps])|(with_reducible apply uA j ?_;rw[cx])|with_reducible apply wpAny_mroOf_exc J ?_|(with_reducible apply Zg J hn z.mro hB ?_;rw[uM])|wp_step)
 rw[dx,ag (by simp[typeHasDict])];split
 .symm
 split
 .symm
 .let m:(h.push {cls:=.type "dict",data:=.dict #[]}).I x=Α o:=cf _ j;let ne:=dX (cq j);apply au (wpAny_alloc' (au (wpAny_update' m (aP ?_))));let gd:((h.push {cls:=.type "dict",data:=.dict #[]}).update x λo=>{cls:=o.cls,dict:=Α h.O,data:=o.data,slots:=o.slots}).I h.O=Α {cls:=.type "dict",data:=.dict #[]}:=
   (Heap.get?_update_ne _ _ _ _ ne.symm).R (Heap.get?_push_at rfl rfl)
  let nd:((h.push {cls:=.type "dict",data:=.dict #[]}).update x λo=>{cls:=o.cls,dict:=Α h.O,data:=o.data,slots:=o.slots}).Ns h.O (λ_=>none):=
   ⟨_,#[],_,gd,rfl,λe he=>absurd he Ä,λ_=>rfl⟩
  ext storeInDict newKeyGuard;apply au (aP (au (wpAny_nsSet1 (Heap.Ns1.of_empty nd) λh' U W=>?_)));let(oD,eD,pD,Z,g2,g3):=U.count (Within.cons name v Within.nil);apply au (wpAny_lookBehind Z (by rw[g2];exact pastItsLine_dict (gS g3 (by rw[df,sy,uF];omega))) ?_)
  wp_walk
  apply k h' _ U ?_ λb O nb F=>?_
  .apply(W.2 x ne).R (xA _ m ?_);let fr:=(Heap.get?_some_iff.mp j).2;let(oc,od,Y,nG):=o;cases Y <;> first|rfl|exact fr
  .exact(W.2 b (dX (cq F))).R ((Heap.get?_update_ne _ _ _ _ nb).R (cf _ F))
def aaC{o:Obj}{Q:Unit->Shared->Prop}(j:StoreFacts B bm sa owner)(z:h.I C=Α ù) (F:h.Ns N mN) (W:mN "__setattr__"=Β) (Y:mN name=Β) (U:typeLookup (.type B) name=pure none)(m:h.I x=Α o) (cx:o.cls=.ref C) (nx:∀c,o.data≠ .cls c) (dx:o.dict=Β)(k:∀h' J,h'.Ns1 h.O (λy=>if y=name then some v else none)->h'.I x=Α {o with dict:=Α h.O}->(∀b O,b≠x->h.I b=Α O->h'.I b=Α O)->Q () ⟨h',g,d,J,os⟩):
  wpAny Ë A Äj Q E ⟨h,g,d,t,os⟩:=by
 let Z:=j.slot.bind Ŧ;ext setAttr callSpecial? specialOf
 repeat (any_goals (first|assumption|(with_reducible apply uA m ?_;rw[cx])|(with_reducible apply Zg z F j.mro j.slot.Q ?_;rw[W])|wp_step))
 apply Zj j.slot.plain j.entry (wpAny_check_sa j z m cx (aaB j z F Y U m cx nx dx λh' J a b c=>?_))
 repeat (any_goals (first|assumption|wp_step))
 exact k h' J a b c
def aaD{o:Obj}{dx:Addr}{mA:MG}{ns:LS}{Q:Unit->Shared->Prop}(SF:StoreFacts B bm sa owner)(hC:h.I C=Α ù) (hn:h.Ns N mN) (oQ:mN "__setattr__"=Β) (uM:mN name=Β) (hB:typeLookup (.type B) name=pure none)(m:h.I x=Α o) (cx:o.cls=.ref C) (nx:∀c,o.data≠ .cls c) (hd:o.dict=Α dx) (ne:dx≠x) (hm:h.Ns1 dx mA) (hw:Within mA ns) (hz:ns.L<=sizeLine) (xC:x≠C)(k:∀h' J,h'.Ns1 dx (λy=>if y=name then some v else mA y)->(∀b O,b≠dx->h.I b=Α O->h'.I b=Α O)->Q () ⟨h',g,d,J,os⟩):
  wpAny Ë A Äj Q E ⟨h,g,d,t,os⟩:=by
 apply store_attr SF hC hn oQ uM hB xC ⟨o,m,cx,nx,.inr ⟨dx,hd,ne,hm⟩⟩ (λh' J I' kp sm=>?_) hw hz;let(Z,U,p1,p2,p3,F):=sm o m;let(o2,e1,_,_,e4):=I';let eo:Z=o2:=aO (U.symm.R e1);subst eo;rcases e4 with ⟨j,_⟩|⟨d2,j,_,e6⟩
 .rw[F dx hd] at j;cases j
 .let ed:dx=d2:=aO ((F dx hd).symm.trans j);subst ed;apply k h' J e6 λb O nb W=>?_;by_cases Y:b=x
  .subst Y;let:O=o:=aO (W.symm.R m);subst this;let p4:=(F dx hd).R hd.symm;apply U.R (cw some ?_);let(a1,a2,a3,a4):=Z;let(b1,b2,b3,b4):=O;dsimp only at p1 p2 p3 p4;subst p1 p2 p3 p4;rfl
  .exact kp b O Y (λo0 d0 q1 q2 z=>nb (by
    let:o0=o:=aO (q1.symm.R m);subst this;rw[z];exact aO (q2.symm.R hd))) W
end
end XL
end PySem
namespace PySem
namespace XL
open AutoSeq1 (wpAny_loadPart')
def aaE{j t:Addr}{i:Nat}{J:Array Value}{x:Value}{Q:VP}(F:s.H.IsTupleIter j t i)(W:s.H.IsTuple t J)(Y:J[i]? =Α x)(k:∀h',h'.IsTupleIter j t (i+1)->Heap.SameBut j s.H h'->Q x {s with heap:=h'}):wpAny Ë A (Builtin.SmallTypes.nextOf (.ref j)) Q E s:=by
 let(o,z,O,m):=id F;let(p,g2,_,n,U):=W;ext Builtin.SmallTypes.nextOf;apply au (P0 (name:=Str.ofString "__next__") F.typeIs P1 (Bg P1 F.typeIs arh ?_ (ari _)));show wpAny _ _ (field (.ref j) 0 >>= _) _ _ s;apply au (vI z m (x:=.ref t) Á ?_);rw[ag (show ¬(Value.ref t==Value.none)=true from d8)];apply au (vI z m (x:=.int i 0) Á ?_);apply au (P2 g2 U ?_);simp only[xB,Y];apply au (su z m Ä (aP ⟨x,Á,aP (k _ ⟨_,xA _ z (DZ (sv m _)),(P3 ..).R O,?_⟩ (vJ ..))⟩));rw[sv m];rfl
def aaF{j t:Addr}{i:Nat}{O:Array Value}{Q:VP}(U:A.handled=Β)(J:s.H.IsTupleIter j t i)(Y:s.H.IsTuple t O)(Z:O[i]? =Β)(k:∀h' e,Heap.ExtBut j s.H h'->(∃o,h'.I e=Α o/\o.cls=.type "StopIteration")->E Èz {s with heap:=h'}):wpAny Ë A (Builtin.SmallTypes.nextOf (.ref j)) Q E s:=by
 let(o,F,c1,z):=id J;let(p,g2,_,n,W):=Y;ext Builtin.SmallTypes.nextOf;apply au (P0 (name:=Str.ofString "__next__") J.typeIs P1 (Bg P1 J.typeIs arh ?_ (ari _)));show wpAny _ _ (field (.ref j) 0 >>= _) _ _ s;apply au (vI F z (x:=.ref t) Á ?_);rw[ag (show ¬(Value.ref t==Value.none)=true from d8)];apply au (vI F z (x:=.int i 0) Á ?_);apply au (P2 g2 W ?_);simp only[xB,Z];apply au (zi (au (su F z Ä ?_)));show wpAny _ _ (newExc (.type "StopIteration") [] >>= _) _ _ _;simp only[newExc,newTuple];apply au (au (uB ?_ (by size_fits)));apply au (m:=firstArgMember _ _) (P4 (a:=Value.none) Ò (uB ?_ (by size_fits)));simp only[raiseNew];apply au (Zk ?_)
 first|rw[show A.in1.handled=Β from U]|rw[U]
 exact au (aP (P5 (k _ _ (((vJ ..).extBut.push _).push _) ⟨_,eY _ Á,Á⟩)))
def QN{prog:Pg}{w:Wd}{A:Around}(W:A.handled=Β)(j t:Addr)(J:t≠j)(m:Array Value):
  Draws prog w A j [j,t] m.u (λi v=>m[i]? =Α v) (λi h=>h.IsTupleIter j t i/\h.IsTuple t m) where
 live:=λ_ _ st=>let ⟨o,ho,_⟩:=st.1;⟨o,ho⟩
 frame:=λ_ _ _ st hk=>⟨st.1.at λo e=>hk j Ä o e,let ⟨o,ho,r⟩:=st.2;⟨o,hk t Ä o ho,r⟩⟩
 item:=λi s Q E hi st U=>aaE st.1 st.2 (x:=m[i]) (by simp[hi]) λh' F z=>U _ h' s.toks (by simp[hi]) ⟨F,let ⟨o,ho,r⟩:=st.2;⟨o,(z.2 t J).R ho,r⟩⟩ z
 done:=λs Q E st O=>aaF W st.1 st.2 Ä O
def aaG(t:Addr)(z:Array Value)(n:Nat)(Z:OA)(sl:AO):
  Meets (Builtin.«enumerate.__new__» ⟨[.type "enumerate",.ref t],[]⟩) (λ_ R s=>s.U t=Α {cls:=.type "tuple",dict:=Z,data:=.seq z n,slots:=sl}/\
   R (.ok (.ret (.ref (s.o {cls:=.type "tuple_iterator",data:=.fields #[.ref t,.int 0 0]}).O)))
    {s with heap:=(s.o {cls:=.type "tuple_iterator",data:=.fields #[.ref t,.int 0 0]}).push {cls:=.type "enumerate",data:=.fields #[.none,.bool false,.ref s.Z,rawInt 0,.none,.none]}}):=
 .of_wp λprog w A R s h=>by
  let(F,g,d,tk,os):=s;let(j,h):=h;let J:=sub_enumerate;let m:Heap.IsTuple (Shared.heap ⟨F,g,d,tk,os⟩) t z:=⟨_,j,rfl,n,rfl⟩
  wp_walk using jo j
  apply wpAny_stack_any λst=>aP ?_;split
  .rename_i c _ _ _ _ _;cases (c==Value.type "enumerate")
   .wp_walk using jo j,Zl m
    exact(_,Á,h)
   .wp_walk using jo j,Zl m
    exact(_,Á,h)
  .wp_walk using jo j,Zl m
   exact(_,Á,h)
def aaH{t:Addr}{j:Array Value}{Q:VP}(J:s.H.IsTuple t j)(k:∀h',IsEnum h' Î s.Z 0 .none->h'.IsTupleIter s.Z t 0->h'.O=s.Z+2->(∀b o,s.U b=Α o->h'.I b=Α o)->Q (.ref Î) {s with heap:=h'}):
  wpAny Ë A (call (.type "enumerate") [.ref t]) Q E s:=by
 let((c,Z,z,sl),O,hc,n,hd):=J;obtain rfl:c=.type "tuple":=hc;obtain rfl:z=.seq j n:=hd;apply callType_new F.called_enumerate Ù (F.typeCall_enumerate_1 _) (F.newCall_enumerate_1 _) (λobj=>F.args_object_init_2 obj _) F.entry_enumerate_new (aaG t j n Z sl) ⟨O,?_⟩;let hz:(s.o {cls:=.type "tuple_iterator",data:=.fields #[.ref t,.int 0 0]}).O=s.Z+1:=mj ..;show _/\_;rw[hz];let m:IsEnum ((s.o {cls:=.type "tuple_iterator",data:=.fields #[.ref t,.int 0 0]}).push {cls:=.type "enumerate",data:=.fields #[.none,.bool false,.ref s.Z,rawInt 0,.none,.none]}) Î s.Z 0 .none:=by
  let q:=eY (s.o {cls:=.type "tuple_iterator",data:=.fields #[.ref t,.int 0 0]}) (o:={cls:=.type "enumerate",data:=.fields #[.none,.bool false,.ref s.Z,rawInt 0,.none,.none]}) rfl;rw[hz] at q;exact q
 exact(⟨_,m,Á⟩,k _ m ⟨_,cf _ (eY _ Á),Á,Á⟩ (by rw[mj,hz]) λb o y=>cf _ (cf _ y))
end XL
end PySem
namespace L2
open PySem PySem.Spec PyProof.Rows
abbrev Key:=Sum Int Str
abbrev d9:=List Key
def sI:Key->Value->Bool
 |.inl k,v=>Value.isInt k v
 |.inr x,v=>Value.isStrOf x v
def aaI(w:Wd):Key->Int
 |.inl k=>hashInt k
 |.inr x=>hashStr w x
theorem sJ:∀{k:Key}{v:Value},sI k v=true->(∃i t,k=Sum.inl i/\v=Value.int i t)\/(∃x t,k=Sum.inr x/\v=Value.str x t)
 |.inl i,v,h=>by
  let(t,e):=Value.isInt_shape (k:=i) (v:=v) h;exact .inl ⟨i,t,Á,e⟩
 |.inr x,v,h=>by
  let(t,e):=Value.isStrOf_shape (x:=x) (v:=v) h;exact .inr ⟨x,t,Á,e⟩
def aaJ(i:Int)(t:Tok):sI (.inl i) Áw=true:=by simp[sI,Value.isInt]
def aaK(x:Str)(t:Tok):sI (.inr x) (.str x t)=true:=by simp[sI,Value.isStrOf]
def aaL(a b:Int):decide ((Sum.inl a:Key)=Sum.inl b)=(a==b):=by
 grind
def aaM(a b:Str):decide ((Sum.inr a:Key)=Sum.inr b)=decide (a=b):=by
 simp
def aaN(a:Int)(b:Str):decide ((Sum.inl a:Key)=Sum.inr b)=false:=fZ (λq=>nomatch q)
def aaO(a:Str)(b:Int):decide ((Sum.inr a:Key)=Sum.inl b)=false:=fZ (λq=>nomatch q)
def e9(prog:Pg)(w:Wd):PySem.KeyKind prog w Key where
 is:=sI
 hash:=aaI w
 inj:=λv a b F z=>by
  rcases sJ F with ⟨i,t,rfl,rfl⟩|⟨x,t,rfl,rfl⟩
  .rcases sJ z with ⟨j,u,rfl,e⟩|⟨y,u,rfl,e⟩
   .injection e with e1 _;rw[e1]
   .exact nomatch e
  .rcases sJ z with ⟨j,u,rfl,e⟩|⟨y,u,rfl,e⟩
   .exact nomatch e
   .injection e with e1 _;rw[e1]
 byValue:=λk v h=>by
  rcases sJ h with ⟨i,t,rfl,rfl⟩|⟨x,t,rfl,rfl⟩ <;> rfl
 pyHash:=λm h=>by
  rcases sJ m with ⟨i,t,rfl,rfl⟩|⟨x,t,rfl,rfl⟩
  .exact wpAny_pyHash_int h
  .exact wpAny_pyHash_str h
 eqBool:=λJ m h=>by
  rcases sJ J with ⟨i,t,rfl,rfl⟩|⟨x,t,rfl,rfl⟩
  .rcases sJ m with ⟨j,u,rfl,rfl⟩|⟨y,u,rfl,rfl⟩
   .rw[aaL] at h;exact wpAny_eqBool_int h
   .rw[aaN] at h;exact SeqAt.EqAt.int_str i t y u _ _ _ _ h
  .rcases sJ m with ⟨j,u,rfl,rfl⟩|⟨y,u,rfl,rfl⟩
   .rw[aaO] at h;exact SeqAt.EqAt.str_int x t j u _ _ _ _ h
   .rw[aaM] at h;exact wpAny_eqBool_str h
 «strs»:=λk x t v h=>by
  rcases sJ h with ⟨i,u,rfl,e⟩|⟨y,u,rfl,e⟩
  .exact nomatch e
  .injection e with e1 _;subst e1;cases v <;> rfl
def aaP(prog:Pg)(w:Wd)(i:Int)(t:Tok):(e9 prog w).is (.inl i) Áw=true:=aaJ i t
def aaQ(prog:Pg)(w:Wd)(x:Str)(t:Tok):(e9 prog w).is (.inr x) (.str x t)=true:=aaK x t
inductive V where
 |aK|bl (b:Bool)|int (i:Int)|str (x:Str)|jr (b:Array UInt8)|Bw (b:UInt64)|ref (a:Addr)|ty (n:String)
 deriving DecidableEq
abbrev ay:=List V
def RelV:V->Value->Prop
 |.aK,u=>u=Value.none
 |.bl b,u=>u=Value.bool b
 |.int i,u=>∃t,u=Value.int i t
 |.str x,u=>∃t,u=Value.str x t
 |.jr b,u=>∃t,u=Value.bytes b t
 |.Bw b,u=>∃t,u=Value.float b t
 |.ref a,u=>u=Value.ref a
 |.ty n,u=>u=Value.type n
abbrev a9:ay->LV->Prop:=Paired RelV
def a9.length{xs:ay}{U:LV}(r:a9 xs U):xs.L=U.L:=Paired.length r
theorem a9.get:∀{xs:ay}{U:LV}{i:Nat}{x:V},a9 xs U->xs[i]? =Α x->∃u,U[i]? =Α u/\RelV x u:=by
 intro xs U i x h;induction h generalizing i with
 |nil=>intro e;simp at e
 |cons r t j=>
  intro e;cases i with
  |zero=>simp at e;subst e;exact(_,Á,r)
  |succ i=>exact j e
theorem a9.append:∀{xs ys:ay}{U W:LV},a9 xs U->a9 ys W->a9 (xs++ys) (U++W):=by
 intro xs ys U W j;induction j with
 |nil=>exact @λs=>s
 |cons r t m=>
  intro s;exact .cons r (m s)
theorem a9.take:∀{xs:ay}{U:LV}(n:Nat),a9 xs U->a9 (xs.take n) (U.take n):=by
 intro xs U n h;induction h generalizing n with
 |nil=>cases n <;> exact .nil
 |cons r t j=>
  cases n with
  |zero=>exact .nil
  |succ n=>exact .cons r (j n)
theorem a9.drop:∀{xs:ay}{U:LV}(n:Nat),a9 xs U->a9 (xs.drop n) (U.drop n):=by
 intro xs U n h;induction h generalizing n with
 |nil=>cases n <;> exact .nil
 |cons r t j=>
  cases n with
  |zero=>exact .cons r t
  |succ n=>exact j n
def j3:Option V->Option Value->Prop
 |some v,some u=>RelV v u
 |none,none=>True
 |_,_=>False
def KV{κ:Type}:List (κ×V)->List (κ×Value)->Prop:=Paired λ(p:κ×V)(q:κ×Value)=>p.1=q.1/\RelV p.2 q.2
def kV:Key->V
 |.inl i=>.int i
 |.inr x=>.str x
inductive HO where
 |lst (xs:ay)
 |tup (xs:ay)
 |dK (kvs:List (Key×V))|dT (kvs:List (d9×V))
 |set (S:Int->Bool) (n:Nat)
 |ins (C dx:Addr) (fs:List (Str×V))
 |own (x:Addr)
 |xd (fs:List (Str×V))
 |met (f x:Addr)
 |sL (lo hi:Int)
 |cI (o:Obj) (u:HO)
 |gU (ps:Array Value)
 |ext (φ:Heap->Prop)
abbrev Hp:=Addr->Option HO
def upd(H:Hp)(a:Addr)(o:HO):Hp:=λb=>if b=a then some o else H b
def aq{H:Hp}{a:Addr}{o:HO}:Ů o a=Α o:=by ext upd;rw[af rfl]
def ao{H:Hp}{a b:Addr}{o:HO}(h:b≠a):Ů o b=H b:=by ext upd;rw[ag h]
def QO{H:Hp}{a b:Addr}{o u:HO}(h:H a=Α o)(h':H b=Α u)(d:o≠u):a≠b:=by
 lia
def eO{H:Hp}{a b:Addr}{o:HO}(h:H a=Α o)(h':H b=Β):a≠b:=by
 lia
section
variable(P:Pg)(w:Wd)
def fO(H:Hp)(h:Heap)(a:Addr):HO->Prop
 |.lst xs=>xs.L<=sizeLine/\∃(j:LV)(n:Nat),a9 xs j/\h.I a=Α {cls:=.type "list",data:=.seq j.toArray n}
 |.tup xs=>xs.L<=sizeLine/\∃j:LV,a9 xs j/\IsTup h a j.toArray
 |.dK kvs=>kvs.L<=sizeLine/\(a==sysModules)=false/\∃vs,KV kvs vs/\h.DictOf Âv a vs
 |.dT kvs=>kvs.L<=sizeLine/\(a==sysModules)=false/\∃xs:List (d9×Addr×Value),
   Paired (λ(p:d9×V)(q:d9×Addr×Value)=>p.1=q.1/\H q.2.1=Α (.tup (p.1.M kV))/\RelV p.2 q.2.2) kvs xs/\
   ∃o es ep,h.I a=Α o/\o.ExactDict/\o.data=.dict es ep/\es.toList=xs.M (entryOfKey Çp)/\(xs.M (·.1)).Nodup
 |.set S n=>h.SetOf (intKind P w) a S n
 |.ins C dx fs=>H dx=Α (.own a)/\fs.L<=1000/\dx≠a/\h.I a=Α Âz/\
   ∃mA,h.Ns1 dx mA/\(∀f,j3 Ái (mA f))/\PySem.Within mA (fs.M (·.1))
 |.own _=>∃o,h.I a=Α o
 |.xd fs=>∃mA,h.Ns1 a mA/\∀f,j3 Ái (mA f)
 |.sL lo hi=>∃t u v,h.I a=Α {cls:=.type "range",data:=.fields #[.int lo t,.int hi u,.int 1 v]}
 |.cI o u=>h.I a=Α o/\fO H h a u
 |.gU ps=>h.I a=Α {cls:=.none,data:=.fields ps}
 |.met f x=>h.I a=Α (PySem.W.methodObj Ć Ŧ)
 |.ext φ=>φ h/\(∃o,h.I a=Α o)/\∀m h2:Heap,φ m->(∀o,m.I a=Α o->h2.I a=Α o)->φ h2
def dY(H:Hp)(h:Heap):Prop:=∀a o,H a=Α o->fO P w H h a o
end
theorem fO.lt(x:fO P w H h a o):a<h.O:=by
 cases o with
 |lst xs=>let(_,_,_,_,e):=x;exact cq e
 |tup xs=>let(_,_,_,p):=x;exact p.lt
 |dK kvs=>let(_,_,_,_,o,_,_,e,_):=x;exact cq e
 |dT kvs=>let(_,_,_,_,o,_,_,e,_):=x;exact cq e
 |set S n=>let(o,_,_,_,e,_):=x;exact cq e
 |ins C dx fs=>let(_,_,_,e,_):=x;exact cq e
 |own y=>let(_,e):=x;exact cq e
 |xd fs=>let(_,(_,_,_,e,_),_):=x;exact cq e
 |sL lo hi=>let(_,_,_,e):=x;exact cq e
 |cI O u=>let(e,_):=x;exact cq e
 |gU ps=>exact cq (show h.I a=Α _ from x)
 |met f y=>exact cq (show h.I a=Α _ from x)
 |ext φ=>let(_,(_,e),_):=x;exact cq e
theorem Paired.nF{α β:Type}{F G:α->β->Prop}:∀{l₁:List α}{l₂:List β},Paired F l₁ l₂->(∀a b,F a b->G a b)->Paired G l₁ l₂:=by
 intro l₁ l₂ j;induction j with
 |nil=>exact @λ_=>.nil
 |cons r t m=>
  intro f;exact .cons (f _ _ r) (m f)
theorem fO.nH(x:fO P w H h a o)(k:∀b u,(b=a\/H b=Α (.own a))->h.I b=Α u->h'.I b=Α u)(F:∀b,H b=Α (.own a)->H' b=Α (.own a)) (J:∀b xs,H b=Α Àn->H' b=Α Àn):fO P w H' h' a o:=by
 induction o with
 |lst xs=>let(z,j,n,r,e):=x;exact(z,j,n,r,k _ _ ě e)
 |tup xs=>let(z,j,r,O,e,c):=x;exact(z,j,r,O,k _ _ ě e,c)
 |dK kvs=>let(z,y,vs,r,O,es,ep,e,c):=x;exact(z,y,vs,r,O,es,ep,k _ _ ě e,c)
 |dT kvs=>
  let(z,y,xs,r,O,es,ep,e,c):=x;exact(z,y,xs,Paired.nF r λp q z=>⟨z.1,J _ _ z.2.1,z.2.2⟩,O,es,ep,k _ _ ě e,c)
 |set S n=>let(O,es,ep,t,e,c):=x;exact(O,es,ep,t,k _ _ ě e,c)
 |ins C dx fs=>
  let(d,z,ne,e,mA,(od,es,ep,m,c),r):=x;exact(F _ d,z,ne,k _ _ ě e,mA,⟨od,es,ep,k _ _ (.inr d) m,c⟩,r)
 |own y=>let(O,e):=x;exact(O,k _ _ ě e)
 |xd fs=>let(mA,(od,es,ep,e,c),r):=x;exact(mA,⟨od,es,ep,k _ _ ě e,c⟩,r)
 |sL lo hi=>let(t,u,v,e):=x;exact(t,u,v,k _ _ ě e)
 |cI O u U=>let(e,q):=x;exact(k _ _ ě e,U q)
 |gU ps=>
  let e:h.I a=Α {cls:=.none,data:=.fields ps}:=x;show h'.I a=Α {cls:=.none,data:=.fields ps};symm
 |met f y=>
  let e:h.I a=Α (PySem.W.methodObj Ć (.ref y)):=x;show h'.I a=Α (PySem.W.methodObj Ć (.ref y));symm
 |ext φ=>let(p,(o,e),st):=x;exact(st _ _ p λo q=>k _ _ ě q,⟨o,k _ _ ě e⟩,st)
def dY.lt(x:Ħ h)(e:H a=Α o):a<h.O:=(x a o e).lt
theorem dY.fresh(x:Ħ h)(e:h.O<=a):H a=Β:=by
 cases q:H a with
 |none=>rfl
 |some u=>exact absurd (iD (x.lt q) e) (qT _)
def dY.kept(x:Ħ h)(k:∀b u,h.I b=Α u->h'.I b=Α u):Ħ h':=λa o e=>
 (x a o e).nH (λb u _ q=>k b u q) (λ_ q=>q) λ_ _ q=>q
def dY.laid(x:Ħ h)(k:∀b u,h.I b=Α u->h'.I b=Α u)(m:h.O<=a)(new:fO P w (Ů o) h' a o):dY P w (Ů o) h':=λb u e=>by
 let hn:=x.fresh m;by_cases j:b=a
 .subst j;rw[aq] at e;cases e;exact new
 .rw[ao j] at e;exact(x b u e).nH (λc v _ q=>k c v q) (λc q=>by rw[ao Äs];exact q) λc xs q=>by rw[ao Äs];exact q
def Rd(H:Hp)(a:Addr)(u:HO):Prop:=H a=Α u\/∃o,H a=Α Éd
def Rd.ok(r:Rd H a u)(x:Ħ h):fO P w H h a u:=by
 rcases r with r|⟨o,r⟩
 .exact x a u r
 .let(_,q):=x a _ r;exact q
def uN:Option HO->Prop
 |some (.lst _)=>True
 |some (.dK _)=>True
 |some (.dT _)=>True
 |some (.set _ _)=>True
 |some (.ins _ _ _)=>True
 |some (.ext _)=>True
 |_=>False
def dY.write(ok:Ħ h)(m:uN (H x))(Y:e=x\/H e=Α Åg)(k:∀b u,b≠e->h.I b=Α u->h'.I b=Α u)(U:∃u,h'.I e=Α u)(new:fO P w (upd H x o') h' x o'):dY P w (upd H x o') h':=λb u q=>by
 let j:∀c y,H c=Α (.own y)->c≠x:=λc y r z=>by subst z;rw[r] at m;exact m
 let F:∀c xs,H c=Α Àn->c≠x:=λc xs r z=>by subst z;rw[r] at m;exact m
 by_cases J:b=x
 .subst J;rw[aq] at q;cases q;exact new
 .rw[ao J] at q;by_cases W:b=e
  .let O:H b=Α Åg:=by
    symm
   rw[q] at O;cases O;let(v,Z):=U;exact(v,by simp_all)
  .apply(ok b u q).nH (λc v hc r=>k c v ?_ r) (λc r=>by rw[ao (j c b r)];exact r) λc xs r=>by rw[ao (F c xs r)];exact r
   grind
structure Un(fs ex:LA)(H H':Hp)(h h':Heap):Prop where
 keep:∀b o,h.I b=Α o->H b=Β->b∉fs->b∉ex->h'.I b=Α o
 slot:∀b o,h.I b=Α o->H b=Β->b∈fs->b∉ex->∃sl,h'.I b=Α {o with slots:=sl}
 free:∀b o,h.I b=Α o->H b=Β->b∉ex->H' b=Β
 there:∀b o,h.I b=Α o->b∉ex->∃o',h'.I b=Α o'
 pY:∀b xs,H b=Α Àn->H' b=Α Àn
 nI:∀b o u,H b=Α Éd->H' b=Α Éd
 pZ:∀b ps,H b=Α (.gU ps)->∃jm,H' b=Α (.gU (ps++jm))
def Un.any(u:Un fs ex H H1 h h1){b:Addr}{O:Obj}(q:h.I b=Α O)(n:H b=Β)(m:b∉ex):∃sl,h1.I b=Α {O with slots:=sl}:=by
 by_cases j:b∈fs
 .exact u.slot b O q n j m
 .exact(O.slots,u.keep b O q n j m)
def Un.kept(k:∀b u,h.I b=Α u->h'.I b=Α u):Un fs ex H H h h':=
 ⟨λb O q _ _ _=>k b O q,λb O q _ _ _=>⟨O.slots,k b O q⟩,λ_ _ _ n _=>n,λb O q _=>⟨O,k b O q⟩,λ_ _ q=>q,λ_ _ _ q=>q,λ_ ps q=>⟨#[],by rw[q];simp⟩⟩
def Un.refl:Un fs ex H H h h:=Un.kept λ_ _ q=>q
def Un.laid(k:∀b u,h.I b=Α u->h'.I b=Α u)(j:h.O<=a)(hn:H a=Β):Un fs ex H (Ů o) h h' where
 keep:=λb u q _ _ _=>k b u q
 slot:=λb u q _ _ _=>⟨u.slots,k b u q⟩
 free:=λb u q n _=>by rw[ao (dX (iD (cq q) j))];exact n
 there:=λb u q _=>⟨u,k b u q⟩
 pY:=λb xs q=>by rw[ao Äs];exact q
 nI:=λb u xs q=>by rw[ao Äs];exact q
 pZ:=λb ps q=>⟨#[],by rw[ao Äs,q];simp⟩
def Un.write(m:uN (H x))(U:e=x\/H e=Α Åg)(k:∀b u,b≠e->h.I b=Α u->h'.I b=Α u)(O:∃u,h'.I e=Α u):Un fs ex H Çu h h':=by
 let J:∀b,H b=Β->b≠x:=λb n z=>by subst z;rw[n] at m;exact m
 let F:∀b,H b=Β->b≠e:=λb n z=>by
  symm
 let j:∀b u,H b=Α u->¬uN Âr->b≠x:=λb u q nm z=>by subst z;rw[q] at m;exact nm m
 apply⟨λb u q n _ _=>k b u (F b n) q,λb u q n _ _=>⟨u.slots,k b u (F b n) q⟩,λb u q n _=>by rw[ao (J b n)];exact n,λb u q _=>?_,
  λb xs q=>by rw[ao (j b _ q λz=>z)];exact q,λb u xs q=>by rw[ao (j b _ q λz=>z)];exact q,λb ps q=>⟨#[],by rw[ao (j b _ q λz=>z),q];simp⟩⟩
 grind
def Et(h:Heap)(H:Hp):LA:=(List.range h.O).J λa=>(H a).isSome
def uO(h:Heap)(H:Hp):Heap:=PySem.W.hideAll h (Et h H)
def aaT(h:Heap)(H:Hp):(uO h H).O=h.O:=PySem.W.hideAll_size _ _
def aaU(e:h.I b=Α o)(n:H b=Β):(uO h H).I b=Α o:=
 PySem.W.hideAll_get _ e λj=>by
  let q:(H b).isSome=true:=(jF.mp j).2;rw[n] at q;simp at q
def aaV(e:(uO h H).I b=Α o):h.I b=Α o/\H b=Β:=by
 let j:h.I b=Α o:=PySem.W.of_hideAll (Et h H) e;apply(j,?_);cases q:H b with
 |none=>rfl
 |some x=>
  let m:b∈Et h H:=jF.mpr ⟨uG.mpr (cq j),by simp[q]⟩;let z:(uO h H).I b=Β:=PySem.W.hideAll_none (Et h H) m;symm
structure Mod(K:FR)(mg:MG)(base:Heap):Prop where
 sM:K.In base
 glob:base.Ns mainGlobals mg
 blt:∃mb,base.Ns builtinsNs mb/\∀x:Str,x≠"__name__"->mb x=bootBuiltins x
 nolimit:base.NoLimit
structure Cx where
 prog:Program
 w:World
 K:FR
 mg:Str->Option Value
 base:Heap
 A:Around
 N:LS
 ib:Shared
 rh:Hp
 env:Env
 outer:List Env
 stack:List Env
 ex:LA
 fn:Str->Bool
 calm:Bool
 pn:bJ
 xe:VP
def nJ(l:List Env):LA:=l.filterMap (·.frame)
abbrev Cx.fs(X:Cx):LA:=nJ X.outer
def xM(j:Scope)(x:Str):Prop:=j.names.Q x=Α .local\/j.names.Q x=Α .cell\/j.names.Q x=Α .free
def Loc(j:Scope)(x:Str):Prop:=j.names.Q x=Α .local\/j.names.Q x=Α .cell
def Look(env:Env)(h:Heap)(m:MG)(x:Str)(u:Value):Prop:=
 (env.kindOf x=Α .local/\m x=Α u)\/((env.kindOf x=Α .cell\/env.kindOf x=Α .free)/\∃c,env.cells.Q x=Α c/\h.IsCell c Âr)
structure Cx.Ok(X:Cx):Prop where
 mod:Mod X.K X.mg X.base
 kind:X.env.scope.kind=.function
 glob:X.env.globals=mainGlobals
 blt:X.env.builtins=builtinsNs
 above:X.ib.Z<=X.env.locals
 inj:∀x y c,X.env.cells.Q x=Α c->X.env.cells.Q y=Α c->x=y
 has:∀x,(X.env.kindOf x=Α .cell\/X.env.kindOf x=Α .free)->∃c,X.env.cells.Q x=Α c
 xN:∀x c,X.fn x=true->X.env.cells.Q x=Α c->X.ib.Z<=c
 hd:X.calm=true->X.A.handled=Β
 frames:X.A.frames=Α X.stack
 Bz:X.stack=X.outer\/(X.stack=X.env::X.outer/\X.env.frame=Α X.env.locals)
 BA:∀b∈X.ex,b≠X.env.locals/\∀x c,X.env.cells.Q x=Α c->c≠b
 bs:∀b o,X.base.I b=Α o->X.ib.U b=Α o/\X.rh b=Β
 nM:X.base.O<=X.ib.Z
 zu:∀b o,X.base.I b=Α o->b∉X.ex
 zw:∀b∈X.ex,b∉X.fs
 lu:X.ib.H.FunFrames X.base X.outer
 p7:∀b∈X.fs,X.rh b=Β
structure Inv(X:Cx)(pins:bJ)(σ:List (Option V))(H:Hp)(s:Sh):Prop where
 ok:X.Ok
 os:s.os=X.ib.os
 bare:AllBare s.gens
 base:Un X.fs X.ex X.rh H X.ib.H s.H
 loc:∃m,s.H.Ns X.env.locals m/\∀(i:Nat)(x:Str)(v:V),X.N[i]? =Α x->σ[i]? =Α Ãq->xM X.env.scope x->∃u,RelV v u/\Look X.env s.H m x u
 cell:∀x c,X.env.cells.Q x=Α c->∃v,s.H.IsCell c v
 free:H X.env.locals=Β
 j4:∀x c,X.env.cells.Q x=Α c->H c=Β
 pin:∀p∈X.pn++pins,s.U p.1=Α p.2/\H p.1=Β/\p.1≠X.env.locals/\p.1∉X.fs/\∀v,p.2.data≠ .cell v
 ax:Ài H s.H
 len:σ.L=X.N.L
section
variable{X:Cx}{pins:bJ}{σ:List (Option V)}{H H':Hp}{s:Sh}{h':Heap}
def Cx.Ok.aaW(ok:X.Ok)(e:X.base.I b=Α o):b∉X.fs:=λj=>by
 let:=(ok.lu.mem j).1;symm
def Inv.bs(I:Ã H s):∀b o,X.base.I b=Α o->s.U b=Α o/\H b=Β:=λb o e=>
 ⟨I.base.keep b o (I.ok.bs b o e).1 (I.ok.bs b o e).2 (I.ok.aaW e) (I.ok.zu b o e),I.base.free b o (I.ok.bs b o e).1 (I.ok.bs b o e).2 (I.ok.zu b o e)⟩
def Inv.bk(I:Ã H s):∀b o,X.base.I b=Α o->s.U b=Α o:=λb o e=>(I.bs b o e).1
def Inv.mod(I:Ã H s):Mod X.K X.mg X.base:=I.ok.mod
def Inv.fQ(I:Ã H s):X.K.In s.H:=I.ok.mod.sM.keeps I.bk
def Inv.fr(I:Ã H s):∃m,Fr X.base X.env.locals s.H m:=
 let ⟨m,hn,_⟩:=I.loc
 ⟨m,hn,I.bk,gS I.ok.nM I.ok.above⟩
def Inv.lt(I:Ã H s):X.env.locals<s.Z:=let ⟨_,hn,_⟩:=I.loc;hn.lt
def Inv.sz(I:Ã H s):X.ib.Z<=s.Z:=gS I.ok.above (qU I.lt)
def Inv.aaX(I:Ã H s)(h:s.Z<=a):a∉X.fs:=λj=>by
 let(_,o,m,_):=I.ok.lu.mem j;exact absurd (iD (cq m) (gS I.sz h)) (qT _)
def Inv.vQ(I:Ã H s):∀x c,X.env.cells.Q x=Α c->c≠X.env.locals:=λx c e z=>by
 let(v,o,j,hd):=I.cell x c e;let(m,(O,es,ep,F,J,_),_):=I.loc;symm
def Inv.lu(I:Ã H s):s.H.FunFrames X.base X.outer:=by
 let all:∀(l:List Env),(∀b∈nJ l,b∈X.fs)->X.ib.H.FunFrames X.base l->s.H.FunFrames X.base l:=by
  intro l;induction l with
  |nil=>intro _ _;trivial
  |cons env r W=>
   intro hs J;let(hk,(L,o,F,O,U,hd),hr):=J;let j:L∈X.fs:=hs L (by ext nJ;rw[D0,F];exact gn);let(sl,e):=I.base.slot L o U (I.ok.p7 L j) j λz=>I.ok.zw L z j;exact(hk,⟨L,_,F,O,e,hd⟩,W (λb m=>hs b (by ext nJ;rw[D0,F];exact aQ _ m)) hr)
 exact all X.outer (λ_ m=>m) I.ok.lu
def Inv.stack(I:Ã H s):s.H.FunFrames X.base X.stack:=by
 rcases I.ok.Bz with e|⟨e,j⟩
 .rw[e];exact I.lu
 .rw[e];let(m,z,_):=I.loc;apply .cons (by rw[I.ok.kind];decide) j z ?_ I.lu;exact P6 (gS I.ok.nM I.ok.above)
def Inv.BB(I:Ã H s):∀b∈nJ X.stack,b∈X.env.locals::X.fs:=λb j=>by
 rcases I.ok.Bz with e|⟨e,m⟩
 .symm
 .rw[e] at j;delta nJ at j;rw[D0,m] at j;exact j
def Inv.Eu(I:Ã H s):∀b∈nJ X.stack,H b=Β:=λb j=>by
 rcases aV.mp (I.BB b j) with e|j
 .rw[e];exact I.free
 .let(_,o,m,_):=I.ok.lu.mem j;exact I.base.free b o m (I.ok.p7 b j) λz=>I.ok.zw b z j
def Inv.step{g':Array GenState}{t':Nat}{d':Drawn}{ch:LA}(I:Ã H s)(O:∀b∈ch,(b∈X.ex\/X.ib.Z<=b)/\b≠X.env.locals/\(∀x c,X.env.cells.Q x=Α c->c≠b)/\∀p∈X.pn++pins,p.1≠b)(keep:∀b o,b≠X.env.locals->b∉X.fs->b∉ch->s.U b=Α o->H b=Β->h'.I b=Α o)(slot:∀b o,b≠X.env.locals->b∈X.fs->b∉ch->s.U b=Α o->H b=Β->∃sl,h'.I b=Α {o with slots:=sl}) (free:∀b o,b∉ch->s.U b=Α o->H b=Β->H' b=Β)(there:∀b o,b∉ch->s.U b=Α o->∃U,h'.I b=Α U)(pY:∀b xs,H b=Α Àn->H' b=Α Àn) (nI:∀b o u,H b=Α Éd->H' b=Α Éd) (pZ:∀b ps,H b=Α (.gU ps)->∃jm,H' b=Α (.gU (ps++jm)))(ns:∀m,s.H.Ns X.env.locals m->h'.Ns X.env.locals m) (ax:Ài H' h') (hg:AllBare g'):
  Inv X pins σ H' {s with heap:=h',gens:=g',drawn:=d',toks:=t'}:=by
 let Z:∀b o,X.ib.U b=Α o->b≠X.env.locals:=λb o e=>dX Àb;let W:∀b o,X.ib.U b=Α o->b∉X.ex->b∉ch:=λb o e hx hb=>by
  rcases(O b hb).1 with z|z
  .symm
  .exact absurd (iD (cq e) z) (qT _)
 let Y:∀x c,X.env.cells.Q x=Α c->∀v,s.H.IsCell c v->h'.IsCell c v:=λx c e v ⟨o,F,hd⟩=>by
  let J:c∉ch:=λz=>(O c z).2.2.1 x c e rfl;by_cases hc:c∈X.fs
  .let(sl,q):=slot c o (I.vQ x c e) hc J F Çi;exact(_,q,hd)
  .exact(o,keep c o (I.vQ x c e) hc J F Çi,hd)
 apply(I.ok,I.os,hg,⟨λb o e n hb hx=>?_,λb o e n hb hx=>?_,λb o e n hx=>?_,λb o e hx=>?_,λb xs e=>pY b xs (I.base.pY b xs e),λb o xs e=>nI b o xs (I.base.nI b o xs e),λb ps e=>?_⟩,?_,λx c e=>?_,?_,λx c e=>?_,λp hp=>?_,ax,I.len)
 .exact keep b o (Z b o e) hb (W b o e hx) Áb ϭ
 .let(sl,j):=I.base.slot b o e n hb hx;let(sl',e2):=slot b _ (Z b o e) hb (W b o e hx) j ϭ;symm
 .let(U,j):=I.base.there b o e hx;exact free b U (W b o e hx) j ϭ
 .let(U,j):=I.base.there b o e hx;symm
 .let(m1,j):=I.base.pZ b ps e;grind
 .let(m,hn,hl):=I.loc;apply(m,ns m hn,λi x v j e2 e3=>?_);let(u,r,l):=hl i x v j e2 e3;apply(u,r,?_);rcases l with l|⟨k,c,e,z⟩
  .exact .inl l
  .exact .inr ⟨k,c,e,Y x c e _ z⟩
 .let(v,z):=I.cell x c e;grind
 .let(m,(o,_,_,F,_),_):=I.loc;exact free _ o (λz=>(O _ z).2.1 Á) F I.free
 .let(v,o,F,hd):=I.cell x c e;exact free c o (λz=>(O c z).2.2.1 x c e Á) F Çi
 .let(e,n,ne,nf,d):=I.pin p hp;let J:p.1∉ch:=λz=>(O p.1 z).2.2.2 p hp rfl;exact(keep p.1 p.2 ne nf J e n,free p.1 p.2 J e n,ne,nf,d)
def Inv.un{t':Nat}(I:Ã H s)(u:Un X.fs [] H H' s.H h')(ax:Ài H' h'):Ã H' {s with heap:=h',toks:=t'}:=by
 let(m,(o,es,ep,F,r),_):=id I.loc;let(sl,O):=u.any F I.free Ä;exact I.step (g':=s.gens) (d':=s.drawn) (ch:=[]) (λ_ z=>nomatch z) (λb o _ j _ e n=>u.keep b o e n j Ä) (λb o _ j _ e n=>u.slot b o e n j Ä) (λb o _ e n=>u.free b o e n Ä) (λb o _ e=>u.there b o e Ä) u.pY u.nI u.pZ (λm' U=>by
  let(o',W,Z,J,Y):=U;rw[F] at J;cases J;exact(_,W,Z,O,Y)) ax I.bare
def Inv.call{g':Array GenState}{t':Nat}{d':Drawn}{ch:LA}(I:Ã H s)(u:Un (nJ X.stack) ch H H' s.H h')(ax:Ài H' h')(W:AllBare g')(O:∀b∈ch,(b∈X.ex\/X.ib.Z<=b)/\b≠X.env.locals/\(∀x c,X.env.cells.Q x=Α c->c≠b)/\∀p∈X.pn++pins,p.1≠b):
  Inv X pins σ H' {s with heap:=h',gens:=g',drawn:=d',toks:=t'}:=by
 let(m,(o,es,ep,F,r),_):=id I.loc;let(sl,j):=u.any F I.free λz=>(O _ z).2.1 rfl;exact I.step (ch:=ch) O (λb o j U hc e n=>u.keep b o e n (λz=>(aV.mp (I.BB b z)).elim j U) hc) (λb o _ _ hc e n=>u.any e n hc) (λb o hc e n=>u.free b o e n hc) (λb o hc e=>u.there b o e hc) u.pY u.nI u.pZ (λm' Y=>by
  let(o',Z,sN,J,r'):=Y;rw[F] at J;cases J;exact(_,Z,sN,j,r')) ax W
def Inv.turned{t':Nat}{it:Addr}(I:Ã H s)(k:∀b o,b≠it->s.U b=Α o->h'.I b=Α o)(U:H it=Β)(j:it≠X.env.locals)(J:it∈X.ex\/X.ib.Z<=it) (h2:∀x c,X.env.cells.Q x=Α c->c≠it) (O:∀p∈X.pn++pins,p.1≠it):Ã H {s with heap:=h',toks:=t'}:=by
 let F:∀b u,H b=Α u->b≠it:=λb u e z=>by rw[z,U] at e;cases e
 refine I.step (g':=s.gens) (d':=s.drawn) (ch:=[it]) đ (λb o _ _ hc e _=>k b o (λz=>hc (by simp[z])) e) (λb o _ _ hc e _=>⟨o.slots,k b o (λz=>hc (by simp[z])) e⟩) (λ_ _ _ _ n=>n)
  (λb o hc e=>⟨o,k b o (λz=>hc (by simp[z])) e⟩) (λ_ _ e=>e) (λ_ _ _ e=>e) (λb ps e=>⟨#[],by rw[e];simp⟩) Æh (λb u e=>?_) I.bare
 .let e:b=it:=by simpa using hb
  subst e;exact(J,j,h2,O)
 .let(o,es,ep,W,r):=hm;exact(o,es,ep,k _ o (dj j) W,r)
 .refine(I.ax b u e).nH Áz (λ_ q=>q) λ_ _ q=>q;rcases hc with z|z
  .rw[z];exact F b u e
  .exact F c _ z
def Inv.tok(I:Ã H s)(t:Nat):Ã H {s with toks:=t}:=I.un (h':=s.H) (t':=t) Un.refl I.ax
def Inv.kept{t':Nat}(I:Ã H s)(k:∀b u,s.U b=Α u->h'.I b=Α u):Ã H {s with heap:=h',toks:=t'}:=I.un (Un.kept k) (I.ax.kept k)
def Inv.laid{a:Addr}{o:HO}{t':Nat}(I:Ã H s)(k:∀b u,s.U b=Α u->h'.I b=Α u)(j:s.Z<=a)(new:Àh (Ů o) h' a o):
  Inv X pins σ (Ů o) {s with heap:=h',toks:=t'}:=I.un (Un.laid k j (I.ax.fresh j)) (I.ax.laid k j new)
def Inv.write{x e:Addr}{o:HO}{t':Nat}(I:Ã H s)(z:uN (H x))(m:e=x\/H e=Α Åg)(k:∀b u,b≠e->s.U b=Α u->h'.I b=Α u)(j:∃u,h'.I e=Α u)(new:Àh Çu h' x o):Ã Çu {s with heap:=h',toks:=t'}:=I.un (Un.write z m k j) (I.ax.write z m k j new)
def Inv.weak(I:Ã H s)(J:σ'.L=σ.L)(w:∀(i:Nat)v,σ'[i]? =Α Ãq->σ[i]? =Α Ãq):Inv X pins σ' H s:=
 ⟨I.ok,I.os,I.bare,I.base,let ⟨m,hn,IV⟩:=I.loc;⟨m,hn,λi x v j z F=>IV i x v j (w i v z) F⟩,I.cell,I.free,I.j4,I.pin,I.ax,J.R I.len⟩
def Inv.IW(I:Ã H s)(h:∀p∈aaY,s.U p.1=Α p.2/\H p.1=Β/\p.1≠X.env.locals/\p.1∉X.fs/\∀v,p.2.data≠ .cell v):Inv X aaY σ H s:=
 ⟨I.ok,I.os,I.bare,I.base,I.loc,I.cell,I.free,I.j4,λp j=>(gM.mp j).elim (λz=>I.pin p (Bh _ z)) (h p),I.ax,I.len⟩
def IX{N:LS}(F:N.Nodup){i j:Nat}{x:Str}(a:N[i]? =Α x)(b:N[j]? =Α x):i=j:=by
 let(J,m):=bO.mp a;let(h2,z):=bO.mp b;exact(Zm F).mp (m.R z.symm)
def QQ{E:VP}{Q:Unit->Shared->Prop}(I:Ã H s)(hN:X.N.Nodup)(hi:X.N[i]? =Α x)(hx:Loc X.env.scope x)(r:RelV v u)(h:∀s',Inv X pins ł H s'->(∃a,Heap.SameBut a s.H s'.H/\(a=X.env.locals\/X.env.cells.Q x=Α a))->Q () s') (hf:X.fn x=true\/X.env.scope.names.Q x=Α .local:=by first|exact .inl Á|exact .inr Á|assumption):Ś (storeName X.env x u) Q E s:=by
 let(m,Z,hl):=id I.loc;let Bv:(X.env.scope.kind== .class||(X.env.scope.kind== .module&&X.env.locals !=X.env.globals))=false:=by rw[I.ok.kind];rfl
 let U:i<σ.L:=by rw[I.len];exact(bO.mp hi).1
 let vQ:=I.vQ;let Y8:∀{a:Addr}{h':Heap},(∃o,s.U a=Α o/\H a=Β)->Heap.SameBut a s.H h'->Ài H h':=λ{a h'}ha hs b ob e=>by
  let(_,_,Ew):=ha;apply(I.ax b ob e).nH (λc w' hc q=>(hs.2 c ?_).R q) (λ_ q=>q) λ_ _ q=>q;lia
 rcases hx with hk|hk
 .apply wpAny_storeName_local hk Z (λh' QR hs=>?_) Bv;let(oL,_,_,hoL,_):=id Z;apply h _ ⟨I.ok,I.os,I.bare,⟨λb o e n hb hx=>?_,λb o e n hb hx=>?_,I.base.free,λb o e hx=>?_,I.base.pY,I.base.nI,I.base.pZ⟩,⟨_,QR,λj y v' F J Y=>?_⟩,λy c e=>?_,I.free,I.j4,λp hp=>?_,Y8 ⟨oL,hoL,I.free⟩ hs,by simpa using I.len⟩ ⟨_,hs,.inl Á⟩
  .exact(hs.2 b (dX Àb)).R Áb
  .let(sl,F):=I.base.slot b o e n hb hx;exact(sl,(hs.2 b (dX Àb)).R F)
  .let(o',F):=I.base.there b o e hx;exact(o',(hs.2 b (dX Àb)).R F)
  .by_cases O:j=i
   .subst O;rw[hi] at F;cases F;rw[Zn U] at J;cases J;exact(u,r,.inl ⟨hk,by simp⟩)
   .rw[Zo (dj O)] at J;let(u',r',q):=hl j y v' F J Y;apply(u',r',?_);rcases q with ⟨k,e⟩|⟨k,c,e,z⟩
    .apply .inl ⟨k,?_⟩;let:y≠x:=λe=>O (IX hN F (e▸ hi));symm
    .exact .inr ⟨k,c,e,z.sameBut hs (vQ y c e)⟩
  .let(w',z):=I.cell y c e;exact(w',z.sameBut hs (vQ y c e))
  .let(e,n,ne,nf,d):=I.pin p hp;exact((hs.2 p.1 ne).R e,n,ne,nf,d)
 .let IY:X.fn x=true:=by
   symm
  let(c,hc):=I.ok.has x (.inl hk);let(w',z):=I.cell x c hc;apply wpAny_storeName_cell I.ok.kind hk hc z (λh' BD hs=>?_);let(oc,hoc,ass):=id z;apply h {s with heap:=h'} ⟨I.ok,I.os,I.bare,⟨λb o e n hb hx=>?_,λb o e n hb hx=>?_,I.base.free,λb o e hx=>?_,I.base.pY,I.base.nI,I.base.pZ⟩,⟨m,Z.sameBut hs (dj (vQ x c hc)),λj y v' F J Y=>?_⟩,λy W e=>?_,I.free,I.j4,λp hp=>?_,Y8 ⟨oc,hoc,I.j4 x c hc⟩ hs,À I.len⟩ ⟨c,hs,.inr hc⟩
  .exact(hs.2 b Ϝ).R Áb
  .let(sl,F):=I.base.slot b o e n hb hx;exact(sl,(hs.2 b Ϝ).R F)
  .let(o',F):=I.base.there b o e hx;exact(o',(hs.2 b Ϝ).R F)
  .by_cases O:j=i
   .subst O;rw[hi] at F;cases F;rw[Zn U] at J;cases J;exact(u,r,.inr ⟨.inl hk,c,hc,BD⟩)
   .rw[Zo (dj O)] at J;let(u',r',q):=hl j y v' F J Y;apply(u',r',?_);rcases q with q|⟨k,W,e,z'⟩
    .exact .inl q
    .apply .inr ⟨k,W,e,z'.sameBut hs ?_⟩;rintro rfl;exact O (IX hN F (I.ok.inj _ _ _ e hc▸ hi))
  .by_cases js:W=c
   .grind
   .let(w2,z2):=I.cell y W e;exact(w2,z2.sameBut hs js)
  .let(e,n,ne,nf,d):=I.pin p hp;apply((hs.2 p.1 ?_).R e,n,ne,nf,d);grind
def Ey(I:Ã H s)(m:X.N.Nodup)(hi:X.N[i]? =Α x)(F:Loc X.env.scope x)(r:RelV v u)(h:∀s',Inv X pins ł H s'->Q () s') (z:X.fn x=true\/X.env.scope.names.Q x=Α .local:=by first|exact .inl Á|exact .inr Á|assumption):Ś (storeName X.env x u) Q E s:=
 QQ I m hi F r (λs' j _=>h s' j) z
def Inv.vS{s':Sh}{ch:LA}(I:Ã H s)(m:s'.os=s.os)(u:Un (nJ X.stack) ch H H' s.H s'.H)(ax:Ài H' s'.H)(j:AllBare s'.gens)(z:∀b∈ch,(b∈X.ex\/X.ib.Z<=b)/\b≠X.env.locals/\(∀x c,X.env.cells.Q x=Α c->c≠b)/\∀p∈X.pn++pins,p.1≠b):Ã H' s':=by
 let(h',g',d',t',O):=s';let e:O=s.os:=m;subst e;exact I.call (g':=g') (t':=t') (d':=d') u ax j z
end
abbrev XK:=Value->OA->Hp->Prop
abbrev St:=List (Option V)
abbrev VK:=V->Hp->Prop
abbrev TE:=St->Hp->VK->Prop
abbrev TT:=St->Hp->(Bool->Hp->Prop)->Prop
abbrev TA:=St->Hp->(ay->Hp->Prop)->Prop
structure Ends where
 nx:St->Hp->Prop
 rt:VK
 bk:St->Hp->Prop:=λ_ _=>False
 ct:St->Hp->Prop:=λ_ _=>False
abbrev TS:=Ends->St->Hp->Prop
inductive EP(X:Cx)(pins:bJ)(σ:St)(Q:VK)(u:Value)(s':Sh):Prop
 |mk (v:V) (H':Hp) (_:Ã H' s') (_:RelV v u) (_:Q v H')
inductive TP(X:Cx)(pins:bJ)(σ:St)(Q:Bool->Hp->Prop)(b:Bool)(s':Sh):Prop
 |mk (H':Hp) (_:Ã H' s') (_:Q b H')
inductive AP(X:Cx)(pins:bJ)(σ:St)(Q:ay->Hp->Prop)(us:LV)(s':Sh):Prop
 |mk (vs:ay) (H':Hp) (_:Ã H' s') (_:a9 vs us) (_:Q vs H')
inductive WP(X:Cx)(pins:bJ)(Q:St->Hp->Prop)(s':Sh):Prop
 |mk (σ':St) (H':Hp) (_:ϵ s') (_:Q σ' H')
def SP(X:Cx)(pins:bJ)(D:Ends)(f:Flow)(s':Sh):Prop:=
 match f with
 |.next=>WP X pins D.nx s'
 |.brk=>WP X pins D.bk s'
 |.cont=>WP X pins D.ct s'
 |.ret u=>∃v σ' H',ϵ s'/\RelV v u/\D.rt v H'
def PE(X:Cx)(e:Expr)(t:TE):Prop:=
 ∀(pins:bJ)(s:Sh)(σ:St)(H:Hp)(Q:VK),Ã H s->t σ H Q->wpAny É X.A ϛ (ô Q) X.xe s
def PT(X:Cx)(e:Expr)(t:TT):Prop:=
 ∀(pins:bJ)(s:Sh)(σ:St)(H:Hp)(Q:Bool->Hp->Prop),Ã H s->t σ H Q->wpAny É X.A (isTrue e X.env ϛ) Ây X.xe s
def PW(X:Cx)(e:Expr)(t:TT):Prop:=
 ∀(whole:Sem Value)(pins:bJ)(s:Sh)(σ:St)(H:Hp)(Q:Bool->Hp->Prop),Ã H s->t σ H Q->wpAny É X.A (isTrue e X.env whole) Ây X.xe s
def PW.pt(h:PW X e t):PT X e t:=h _
def PA(X:Cx)(es:List Expr)(t:TA):Prop:=
 ∀(pos:Pos)(pins:bJ)(s:Sh)(σ:St)(H:Hp)(Q:ay->Hp->Prop),Ã H s->t σ H Q->wpAny É X.A (spliced (backTo pos ø)) (AP X pins σ Q) X.xe s
def PS(X:Cx)(st:Stmt)(t:TS):Prop:=
 ∀(pins:bJ)(s:Sh)(σ:St)(H:Hp)(D:Ends),Ã H s->t D σ H->wpAny É X.A (exec st X.env) År X.xe s
def lx(X:Cx)(st:List Stmt)(t:TS):Prop:=
 ∀(pins:bJ)(s:Sh)(σ:St)(H:Hp)(D:Ends),Ã H s->t D σ H->wpAny É X.A (execs st X.env) År X.xe s
def aL{α:Type}{t:Sem α}{Q j:α->Shared->Prop}{M:Model}{A:Around}{E:VP}{s:Sh}(h:Ś t Q E s)(m:∀a s,Q a s->j a s):Ś t j E s:=iU h m λ_ _ x=>x
inductive aA(i:Nat)(σ:St)(H:Hp)(Q:VK):Prop
 |mk (v:_) (_:σ[i]? =Α Ãq) (_:Q v H)
def tC(v:V):TE:=λ_ H Q=>Q v H
def QS(j:X.N[i]? =Α x)(U:xM X.env.scope x)(hd:(x==("__debug__":Str))=false:=by decide)(W:(x==("__classdict__":Str))=false:=by decide):PE X Àe (aA i):=by
 show Ö;let(v,e,h):=h;let(m,O,F):=I.loc;let(u,r,l):=F i x v j e U;let fin:ô Q u s:=⟨v,H,I,r,h⟩;rcases l with ⟨hk,J⟩|⟨hk,c,hc,z⟩
 .exact wpAny_Name (wpAny_loadName_local I.ok.kind hk O J fin) hd
 .rcases hk with hk|hk
  .exact wpAny_Name (wpAny_loadName_cell I.ok.kind hk hc z fin) hd
  .exact wpAny_Name (wpAny_loadName_free I.ok.kind hk hc z fin W) hd
def bp{i j pos}:PE X (.Constant Ãd j pos) (tC Ãd):=λ_ _ _ H _ I h=>wpAny_Constant_int ⟨.int i,H,I.tok _,⟨_,rfl⟩,h⟩
def zy{b j pos}:PE X (.Constant (.bool b) j pos) (tC (.bl b)):=λ_ _ _ H _ I h=>Constant_bool ⟨.bl b,H,I,rfl,h⟩
def rj{j pos}:PE X (.Constant .none j pos) (tC .aK):=λ_ _ _ H _ I h=>Constant_none ⟨.aK,H,I,rfl,h⟩
def Ez{x j pos}:PE X (.Constant Çk j pos) (tC Çk):=λ_ _ _ H _ I h=>Calls.Constant_str ⟨.str x,H,I.tok _,⟨_,rfl⟩,h⟩
def Gl(X:Cx)(x:Str):Prop:=X.env.kindOf x=Α .globalImplicit
def vT(I:Ã H s)(j:Gl X x)(m:X.mg x=Α u)(h:Q u s)(hd:(x==("__debug__":Str))=false:=by decide):wpAny É X.A (eval Àe X.env) Q E s:=
 aro I.ok.kind j (Calls.loadGlobal_global (by rw[I.ok.glob];exact I.mod.glob.keeps I.bk) m h) hd
def vU{E:VP}{pins:bJ}{s:Sh}{σ:St}{H:Hp}{x:Str}{u:Value}{pos:Pos}{Q:VP}(I:Ã H s)(m:Gl X x)(z:X.mg x=Β)(J:bootBuiltins x=Α u)(h:Q u s)(F:x≠"__name__":=by decide) (hd:(x==("__debug__":Str))=false:=by decide):wpAny É X.A (eval Àe X.env) Q E s:=by
 let(O,j,h2):=I.mod.blt;exact aro I.ok.kind m (Calls.loadGlobal_builtin (by rw[I.ok.glob];exact I.mod.glob.keeps I.bk) z (by rw[I.ok.blt];exact j.keeps I.bk) ((h2 x F).R J) h) hd
def vV(j:Gl X x)(m:X.mg x=Α u)(r:RelV v u)(hd:(x==("__debug__":Str))=false:=by decide):PE X Àe (tC v):=
 λ_ _ _ H _ I h=>vT I j m ⟨v,H,I,r,h⟩ hd
def PC(X:Cx)(op:CmpOp)(a b:Expr)(t:TE):Prop:=
 ∀(pins:bJ)(s:Sh)(σ:St)(H:Hp)(Q:VK),Ã H s->t σ H Q->
  wpAny É X.A (eval a X.env) (λv j=>wpAny É X.A (eval b X.env) (λu m=>wpAny É X.A (compareOp op v u) (ô Q) X.xe m) X.xe j) X.xe s
def QT(b:Expr)(h:op≠ .In)(h2:op≠ .NotIn):behindInMarks op b=false:=by
 let j:(op==CmpOp.In)=false:=by cases op <;> first|rfl|exact absurd Á h
 let m:(op==CmpOp.NotIn)=false:=by cases op <;> first|rfl|exact absurd Á h2
 cases b <;> simp[behindInMarks,j,m]
def aa1(ta:TE):TE:=λσ H Q=>ta σ H λx H1=>Q (.bl (decide (x=.aK))) H1
def QU(ta:TE):TE:=λσ H Q=>ta σ H λx H1=>Q (.bl (!decide (x=.aK))) H1
theorem RelV.QV(r:RelV x v):(v==Value.none)=decide (x=.aK):=by
 cases x with
 |aK=>cases r;rfl
 |bl _=>cases r;rfl
 |int _=>let(t,rfl):=r;rfl
 |str _=>let(t,rfl):=r;rfl
 |jr _=>let(t,rfl):=r;rfl
 |Bw _=>let(t,rfl):=r;rfl
 |ref _=>cases r;rfl
 |ty _=>cases r;rfl
def rk{j lS}(z:PE X a ta):PC X .Is a (.Constant .none j lS) (aa1 ta):=by
 show Ö;apply aL (z pins s σ H _ I h) λv O ⟨x,H1,m,J,F⟩=>?_;exact Constant_none (is_none_gen ⟨.bl _,H1,m,by rw[J.QV];rfl,F⟩)
def IZ{j lS}(z:PE X a ta):PC X .IsNot a (.Constant .none j lS) (QU ta):=by
 show Ö;apply aL (z pins s σ H _ I h) λv O ⟨x,H1,m,J,F⟩=>?_;exact Constant_none (isnot_none_gen ⟨.bl _,H1,m,by rw[J.QV];rfl,F⟩)
inductive zA(x:V)(q:Bool->Prop):Prop
 |mk (c:Bool) (_:x=.bl c) (_:q c)
def tB(t:TE):TT:=λσ H Q=>t σ H λx H1=>zA x λc=>Q c H1
def QW(h:PC X op a b t)(j:behindInMarks op b=false:=by first|exact QT _ Ù (by decide)|rfl):PE X ϡ t:=λpins s σ H Q I hw=>wpAny_Compare1 Âu j
def oS(h:PC X op a b t)(j:behindInMarks op b=false:=by first|exact QT _ Ù (by decide)|rfl):PT X ϡ (tB t):=by
 intro pins s σ H Q I z;apply wpAny_isTrue_Compare1 (aL (h pins s σ H _ I z) λv O j=>aL j λu U h2=>aL h2 λc W ⟨x,H1,m,J,F⟩=>?_) j;let(d,rfl,q):=F;cases J;exact uH ⟨H1,m,q⟩
def jH(h:ϥ t)(m:∀whole,isTrue e X.env whole=(do let v <-whole;standAt e.pos;holding [v] (truthy v)):=by intro _;rfl):PT X e (tB t):=by
 intro pins s σ H Q I z;apply isTrue_plain (aL (h pins s σ H _ I z) λv O ⟨x,H1,j,J,F⟩=>?_) (m _);let(d,rfl,q):=F;cases J;exact uH ⟨H1,j,q⟩
def EA(t u:TT):TT:=λσ H Q=>t σ H λc H1=>if c=true then u σ H1 Q else Q false H1
def Ja(t u:TT):TT:=λσ H Q=>t σ H λc H1=>if c=true then Q true H1 else u σ H1 Q
def aa2(t:TT):TT:=λσ H Q=>t σ H λc H1=>Q (!c) H1
theorem pw_and1(j:PT X a tA):PW X (.BoolOp .And [a] pos) tA:=by
 intro W pins s σ H Q I h;apply isTrue_and (aL (j pins s σ H Q I h) λc m e=>?_);cases c with
 |true=>exact isTrue_and_nil e
 |false=>exact e
theorem pw_or1(j:PT X a tA):PW X (.BoolOp .Or [a] pos) tA:=by
 intro W pins s σ H Q I h;apply isTrue_or (aL (j pins s σ H Q I h) λc m e=>?_);cases c with
 |false=>exact isTrue_or_nil e
 |true=>exact e
theorem pw_and(z:PT X a tA)(F:PW X (.BoolOp .And (b::bT) pos) tB'):PW X (.BoolOp .And (a::b::bT) pos) (EA tA tB'):=by
 intro W pins s σ H Q I h;apply isTrue_and (aL (z pins s σ H _ I h) λc J ⟨H1,j,m⟩=>?_);cases c with
 |true=>exact F W pins J σ H1 Q j m
 |false=>exact(H1,j,m)
theorem pw_or(z:PT X a tA)(F:PW X (.BoolOp .Or (b::bT) pos) tB'):PW X (.BoolOp .Or (a::b::bT) pos) (Ja tA tB'):=by
 intro W pins s σ H Q I h;apply isTrue_or (aL (z pins s σ H _ I h) λc J ⟨H1,j,m⟩=>?_);cases c with
 |true=>exact(H1,j,m)
 |false=>exact F W pins J σ H1 Q j m
def qe(m:PT X a tA):PT X (.UnaryOp .Not a pos) (aa2 tA):=by
 show Ö;exact isTrue_not (aL (m pins s σ H (λc H1=>Q (!c) H1) I h) λ_ _ ⟨H1,j,q⟩=>⟨H1,j,q⟩)
def Jb(ta tb:TE):TE:=λσ H Q=>ta σ H λx H1=>zA x λc=>if c=true then tb σ H1 Q else Q (.bl false) H1
def Jc(ta tb:TE):TE:=λσ H Q=>ta σ H λx H1=>zA x λc=>if c=true then Q (.bl true) H1 else tb σ H1 Q
def aa3(ta:TE):TE:=λσ H Q=>ta σ H λx H1=>zA x λc=>Q (.bl (!c)) H1
def sO{op}(h:PE X a t):PE X (.BoolOp op [a] pos) t:=λpins s σ H Q I hw=>BoolOp_one Âu
def uP(z:PE X a ta)(F:PE X (.BoolOp .And (b::bT) pos) tb):PE X (.BoolOp .And (a::b::bT) pos) (Jb ta tb):=by
 show Ö;apply BoolOp_and (aL (z pins s σ H _ I h) λv O ⟨x,H1,m,J,j⟩=>?_);let(c,rfl,j):=j;cases J;apply uH ?_;cases c with
 |true=>exact F pins O σ H1 Q m j
 |false=>exact(.bl false,H1,m,Á,j)
def QX(z:PE X a ta)(F:PE X (.BoolOp .Or (b::bT) pos) tb):PE X (.BoolOp .Or (a::b::bT) pos) (Jc ta tb):=by
 show Ö;apply BoolOp_or (aL (z pins s σ H _ I h) λv O ⟨x,H1,m,J,j⟩=>?_);let(c,rfl,j):=j;cases J;apply uH ?_;cases c with
 |false=>exact F pins O σ H1 Q m j
 |true=>exact(.bl true,H1,m,Á,j)
def BE(z:PE X a ta):PE X (.UnaryOp .Not a pos) (aa3 ta):=by
 show Ö;apply UnaryOp_ (aL (z pins s σ H _ I h) λv J ⟨x,H1,m,F,j⟩=>?_);let(c,rfl,j):=j;cases F;exact not_of (uH ⟨.bl (!c),H1,m,Á,j⟩)
def xO(t:TT)(ta tb:TE):TE:=λσ H Q=>t σ H λc H1=>if c=true then ta σ H1 Q else tb σ H1 Q
theorem sP(hc:PT X c tA)(F:PE X a ta)(J:PE X b tb):PE X (.IfExp c a b pos) (xO tA ta tb):=by
 show Ö;apply wpAny_IfExp (aL (hc pins s σ H _ I h) λd z ⟨H1,j,m⟩=>?_);cases d with
 |true=>exact F pins z σ H1 Q j m
 |false=>exact J pins z σ H1 Q j m
def aa(K:FR)(H:Hp)(a:Addr)(xs:ay):Prop:=
 Rd H a Ào\/
  ∃(o:Obj)(j:Array Value)(n:Nat),K.Q a=Α o/\o.cls=.type "list"/\o.dict=Β/\o.data=.seq j n/\j.u<=sizeLine/\a9 xs j.toList
def bz(K:FR)(H:Hp)(a:Addr)(xs:ay):Prop:=
 Rd H a Àn\/
  ∃(o:Obj)(j:Array Value)(n:Nat),K.Q a=Α o/\o.cls=.type "tuple"/\o.data=.seq j n/\j.u<=sizeLine/\a9 xs j.toList
def aa4:Value->Option V
 |.none=>some .aK
 |.bool b=>some (.bl b)
 |.int i _=>some Ãd
 |.str x _=>some Çk
 |.bytes b _=>some (.jr b)
 |.float b _=>some (.Bw b)
 |.ref a=>some ā
 |.type n=>some (.ty n)
 |_=>none
theorem RelV.abs(r:RelV x u):aa4 u=Α x:=by
 cases x with
 |aK=>cases r;rfl
 |bl _=>cases r;rfl
 |int _=>let(t,rfl):=r;rfl
 |str _=>let(t,rfl):=r;rfl
 |jr _=>let(t,rfl):=r;rfl
 |Bw _=>let(t,rfl):=r;rfl
 |ref _=>cases r;rfl
 |ty _=>cases r;rfl
def RelV.inj(r:RelV x u)(q:RelV y u):x=y:=aO (r.abs.symm.R q.abs)
theorem a9.inj:∀{xs ys:ay}{U:LV},a9 xs U->a9 ys U->xs=ys:=by
 intro xs ys U h;induction h generalizing ys with
 |nil=>intro h';cases h';rfl
 |cons r t j=>
  intro h';cases h' with
  |cons m t'=>rw[r.inj m,j t']
section
variable{X:Cx}{pins:bJ}{σ:St}{H:Hp}{s:Sh}{a:Addr}{xs ys:ay}
def aa.of{K:FR}(h:H a=Α Ào):ã a xs:=.inl (.inl h)
def bz.of{K:FR}(h:H a=Α Àn):ŭ a xs:=.inl (.inl h)
def Inv.list(I:Ã H s)(h:ϳ a xs):∃j:LV,a9 xs j/\PlainL s.H a j.toArray/\xs.L<=sizeLine:=by
 rcases h with h|⟨o,j,n,hk,hc,hd,hs,hz,r⟩
 .let(z,j,n,r,e):=h.ok I.ax;exact(j,r,⟨_,n,e,Á,Á,Á⟩,z)
 .apply(j.toList,r,⟨o,n,I.fQ a o hk,hc,hd,by assumption⟩,?_);let e:=r.L;symm
def Inv.tuple(I:Ã H s)(h:bz X.K H a xs):∃j:LV,a9 xs j/\IsTup s.H a j.toArray/\xs.L<=sizeLine:=by
 rcases h with h|⟨o,j,n,hk,hc,hs,hz,r⟩
 .let(z,j,r,p):=h.ok I.ax;exact(j,r,p,z)
 .apply(j.toList,r,⟨o,I.fQ a o hk,hc,n,À hs⟩,?_);let e:=r.L;simp only[ml] at e;symm
def Inv.BF(I:Ã H s)(h:ϳ a xs)(h':ϳ a ys):xs=ys:=by
 let(m,r,(o,n,e,_,_,d),_):=I.list h;let(its',z,(O,F,j,_,_,d'),_):=I.list h';rw[e] at j;cases j;rw[d] at d';injection d' with d1 _;let:m=its':=by simpa using cw Array.toList d1
 subst this;exact r.inj z
def Inv.QY(I:Ã H s)(h:bz X.K H a xs)(h':bz X.K H a ys):xs=ys:=by
 let(m,r,(o,e,_,n,d),_):=I.tuple h;let(its',z,(O,j,_,F,d'),_):=I.tuple h';rw[e] at j;cases j;rw[d] at d';injection d' with d1 _;let:m=its':=by simpa using cw Array.toList d1
 subst this;exact r.inj z
end
abbrev Cx.iL(X:Cx)(E:VP):Cx:={X with xe:=E}
abbrev Cx.vW(X:Cx):Cx:=X.iL λ_ _=>False
def Cx.Ok.iL{X:Cx}(ok:X.Ok)(E:VP):(X.iL E).Ok:=
 ⟨ok.mod,ok.kind,ok.glob,ok.blt,ok.above,ok.inj,ok.has,ok.xN,ok.hd,ok.frames,ok.Bz,ok.BA,ok.bs,ok.nM,ok.zu,ok.zw,ok.lu,ok.p7⟩
def Cx.Ok.mv{X:Cx}{E:VP}(ok:(X.iL E).Ok):X.Ok:=
 ⟨ok.mod,ok.kind,ok.glob,ok.blt,ok.above,ok.inj,ok.has,ok.xN,ok.hd,ok.frames,ok.Bz,ok.BA,ok.bs,ok.nM,ok.zu,ok.zw,ok.lu,ok.p7⟩
section
variable{X:Cx}{pins:bJ}{σ:St}{H:Hp}{s:Sh}{E:VP}
def Inv.iL(I:Ã H s)(E:VP):Inv (X.iL E) pins σ H s:=⟨I.ok.iL E,I.os,I.bare,I.base,I.loc,I.cell,I.free,I.j4,I.pin,I.ax,I.len⟩
def Inv.mv(I:Inv (X.iL E) pins σ H s):Ã H s:=⟨I.ok.mv,I.os,I.bare,I.base,I.loc,I.cell,I.free,I.j4,I.pin,I.ax,I.len⟩
theorem SP.mv(h:SP (X.iL E) pins D f s'):SP X pins D f s':=by
 cases f with
 |next=>let(σ',H',I,q):=h;exact(σ',H',I.mv,q)
 |brk=>let(σ',H',I,q):=h;exact(σ',H',I.mv,q)
 |cont=>let(σ',H',I,q):=h;exact(σ',H',I.mv,q)
 |ret u=>let(v,σ',H',I,r,q):=h;exact(v,σ',H',I.mv,r,q)
def lx.vW{st:List Stmt}{t:TS}(h:lx X.vW st t):lx X st t:=λpins s σ H D I j=>
 iU (h pins s σ H D (I.iL _) j) (λ_ _ q=>q.mv) λ_ _ z=>False.elim z
end
section
variable{X:Cx}{st:Stmt}{bT:List Stmt}{t u:TS}{e:Expr}{te:TE}{pos:Pos}
def QZ:TS:=λD σ H=>D.nx σ H
def Jd(t u:TS):TS:=λD σ H=>t {D with nx:=u D} σ H
def eA:lx X [] QZ:=λ_ _ σ H _ I h=>D1 ⟨σ,H,I,h⟩
def aD(m:PS X st t)(h2:lx X bT u):lx X (st::bT) (Jd t u):=by
 intro pins s σ H D I h;apply P7 (aL (m pins s σ H {D with nx:=u D} I h) λf z q=>?_);cases f with
 |next=>
  let(σ',H',j,q):=q;exact h2 pins z σ' H' D j q
 |ret v=>exact q
 |brk=>exact q
 |cont=>exact q
theorem aE(j:PS X st t):lx X [st] t:=by
 intro pins s σ H D I h;apply P7 (aL (j pins s σ H D I h) λf m q=>?_);cases f with
 |next=>exact D1 q
 |ret v=>exact q
 |brk=>exact q
 |cont=>exact q
def Inv.quiet(I:Ã H s):interactive X.env=false:=by simp[interactive,I.ok.kind]
def aa5(te:TE):TS:=λD σ H=>te σ H λ_ H1=>D.nx σ H1
def sQ(m:ϥ te)(hs:swapsWith e none pos.line X.env=pure false:=by rfl):PS X (.Expr e pos) (aa5 te):=by
 intro pins s σ H D I h;exact wpAny_Expr_any (aL (m pins s σ H _ I h) λv J ⟨x,H1,j,F,z⟩=>⟨σ,H1,j,z⟩) I.quiet hs
def BG(te:TE):TS:=λD σ H=>te σ H D.rt
def a0(m:ϥ te):PS X (.Return (some e) pos) (BG te):=by
 intro pins s σ H D I h;exact wpAny_Return_some (aL (m pins s σ H _ I h) λv J ⟨x,H1,j,F,z⟩=>⟨x,σ,H1,j,F,z⟩)
def aa6(c:TT)(t u:TS):TS:=λD σ H=>c σ H λb H1=>if b=true then t D σ H1 else u D σ H1
theorem dv(hc:PT X c tc)(F:lx X a t)(J:lx X b u):PS X (.If c a b pos) (aa6 tc t u):=by
 intro pins s σ H D I h;apply wpAny_If (aL (hc pins s σ H _ I h) λd z ⟨H1,j,m⟩=>?_);cases d with
 |true=>exact F pins z σ H1 D j m
 |false=>exact J pins z σ H1 D j m
end
abbrev TG:=V->St->Hp->(St->Hp->Prop)->Prop
abbrev BH:=ay->St->Hp->(St->Hp->Prop)->Prop
def PG(X:Cx)(j:Expr)(t:TG):Prop:=
 ∀(pins:bJ)(s:Sh)(σ:St)(H:Hp)(v:V)(u:Value)(Q:St->Hp->Prop),Ã H s->RelV v u->t v σ H Q->
  wpAny É X.A (assign j X.env u) (λ_ s'=>WP X pins Q s') X.xe s
def EB(X:Cx)(ts:List Expr)(t:BH):Prop:=
 ∀(pins:bJ)(s:Sh)(σ:St)(H:Hp)(vs:ay)(U:LV)(Q:St->Hp->Prop),Ã H s->a9 vs U->t vs σ H Q->
  wpAny É X.A (assignInOrder ((assignEach ts X.env).M (·.2)) U) (λ_ s'=>WP X pins Q s') X.xe s
abbrev Q0:=V->V->Hp->VK->Prop
def PIp(X:Cx)(op:Operator)(t:Q0):Prop:=
 ∀(pins:bJ)(s:Sh)(σ:St)(H:Hp)(x y:V)(v u:Value)(Q:VK),Ã H s->RelV x v->RelV y u->t x y H Q->
  wpAny É X.A (inplaceOp op v u) (ô Q) X.xe s
def qf(i:Nat):TG:=λv σ H Q=>Q ł H
def dy(i:Nat)(m:X.N.Nodup)(hi:X.N[i]? =Α x:=by rfl)(F:Loc X.env.scope x:=by first|exact .inl Á|exact .inr Á)(z:X.fn x=true\/X.env.scope.names.Q x=Α .local:=by first|exact .inl Á|exact .inr Á|assumption):PG X Àe (qf i):=by
 intro pins s σ H v u Q I r h;exact wpAny_assign_Name (Ey I m hi F r (λs' j=>⟨_,H,j,h⟩) z)
def Q1:BH:=λvs σ H Q=>vs=[]/\Q σ H
inductive Je(t:TG)(u:BH)(vs:ay)(σ:St)(H:Hp)(Q:St->Hp->Prop):Prop
 |mk (v r:_) (_:vs=v::r) (_:t v σ H λσ' H'=>u r σ' H' Q)
def aa8:EB X [] Q1:=by
 intro pins s σ H vs U Q I r h;let(e,h):=h;subst e;cases r;exact assignInOrder_nil ⟨σ,H,I,h⟩
def Q2(z:PG X e t)(h2:EB X es u)(hs:(assignEach (e::es) X.env).M (·.2)=assign e X.env::(assignEach es X.env).M (·.2):=by rfl):EB X (e::es) (Je t u):=by
 intro pins s σ H vs U Q I r h;let(v,W,m,h):=h;subst m;cases r with
 |cons r J=>
  rw[hs];apply assignInOrder_cons (aL (z pins s σ H _ _ _ I r h) λ_ O ⟨σ1,H1,j,F⟩=>?_);exact h2 pins O σ1 H1 _ _ Q j J F
inductive Q3(K:FR)(n:Nat)(t:BH)(v:V)(σ:St)(H:Hp)(Q:St->Hp->Prop):Prop
 |mk (a xs:_) (_:v=.ref a) (_:ŭ a xs) (_:xs.L=n) (_:t xs σ H Q)
def aa9{es:List Expr}{k:Nat}{t:BH}{n:Nat}(hc:X.calm=true)(h:EB X es t)(J:(assignEach es X.env).L=n:=by rfl) (Y:(assignEach es X.env).findIdx? (·.1)=Β:=by rfl):PG X (.Tuple es k pos) (Q3 X.K n t):=by
 intro pins s σ H v u Q I r j;let(a,xs,z,O,F,j):=j;subst z;cases r;let(aj,Z,U,hz):=I.tuple O;apply assign_Tuple_tuple Ā U (by simp[J,<-F,Z.length]) Y λh' W=>?_;let m:Ã H {s with heap:=h'}:=I.kept (t':=s.toks) λb o e=>W b o Åe e;exact h pins _ σ H xs _ Q m (by assumption) j
abbrev g2(K:FR)(i j:Nat):TG:=Q3 K 2 (Je (qf i) (Je (qf j) Q1))
def iM{k:Nat}{p q:Pos}(i j:Nat)(m:X.N.Nodup)(hc:X.calm=true:=by rfl)(hi:X.N[i]? =Α x:=by rfl)(J:X.N[j]? =Α y:=by rfl)(O:Loc X.env.scope x:=by first|exact .inl Á|exact .inr Á)(U:Loc X.env.scope y:=by first|exact .inl Á|exact .inr Á)(z:X.fn x=true\/X.env.scope.names.Q x=Α .local:=by first|exact .inr Á|exact .inl Á) (F:X.fn y=true\/X.env.scope.names.Q y=Α .local:=by first|exact .inr Á|exact .inl Á):PG X (.Tuple [.Name x p,.Name y q] k pos) (g2 X.K i j):=
 aa9 hc (Q2 (dy i m hi O z) (Q2 (dy j m J U F) aa8))
def zB(te:TE)(g:TG):TS:=λD σ H=>te σ H λx H1=>g x σ H1 D.nx
def cy(i:Nat)(z:X.N.Nodup)(F:ϥ te)(hi:X.N[i]? =Α x:=by rfl)(O:Loc X.env.scope x:=by first|exact .inl Á|exact .inr Á)(hs:swapsWith e (some (.Name x lS)) pos.line X.env=pure false:=by rfl)(J:X.fn x=true\/X.env.scope.names.Q x=Α .local:=by first|exact .inl Á|exact .inr Á|assumption):
  PS X (.Assign [.Name x lS] e pos) (zB te (qf i)):=by
 intro pins s σ H D I h;apply wpAny_Assign_Name (aL (F pins s σ H _ I h) λv Y ⟨y,H1,j,W,U⟩=>?_) hs;exact Ey j z hi O W (λZ m=>⟨_,H1,m,U⟩) J
def aba(i:Nat)(te:TE)(m:Q0):TS:=λD σ H=>∃x,σ[i]? =Α Èq/\te σ H λy H1=>m x y H1 λz j=>D.nx (σ.set i (some z)) j
def abb(Z:X.N.Nodup)(hi:X.N[i]? =Α x)(j:Loc X.env.scope x)(he:ϥ te)(ho:PIp X op ti)(hf:X.fn x=true\/X.env.scope.names.Q x=Α .local:=by first|exact .inl Á|exact .inr Á|assumption):
  PS X (.AugAssign (.Name x lS) op e pos) (aba i te ti):=by
 intro pins s σ H D I h;let(v,Y,h):=h;let(m,hn,hl):=I.loc;let F:xM X.env.scope x:=by rcases j with k|k;exact .inl k;exact .inr (.inl k)
 let(u,r,l):=hl i x v hi Y F;apply wpAny_AugAssign_Name ?_;let go:wpAny É X.A ϛ (λw s₂=>wpAny É X.A (inplaceOp op u w) (λr s₃=>wpAny É X.A (storeName X.env x r) (λ_=>SP X pins D .next) X.xe s₃) X.xe s₂) X.xe s:=by
  apply aL (he pins s σ H _ I h) λw s1 ⟨y,H1,O,r1,q1⟩=>?_;apply aL (ho pins s1 σ H1 v y u w _ O r r1 q1) λz s2 ⟨zv,J,U,r2,q2⟩=>?_;exact Ey U Z hi j r2 (λs3 W=>⟨_,J,W,q2⟩) hf
 rcases l with ⟨hk,hm⟩|⟨hk,c,hc,zx⟩
 .exact wpAny_loadName_local I.ok.kind hk hn hm go
 .rcases hk with hk|hk
  .exact wpAny_loadName_cell I.ok.kind hk hc zx go
  .rcases j with k|k
   .let:X.env.scope.names.Q x=Α .free:=hk;symm
   .let:X.env.scope.names.Q x=Α .free:=hk;symm
def abd(c:TT)(tb:TS):TS:=λD σ H=>∃W:Nat->St->Hp->Prop,(∃m,W m σ H)/\∀m σ H,W m σ H->
 c σ H λb H1=>if b=true then ∃N:St->Hp->Prop,(∀σ' H',N σ' H'->∃j,j<m/\W j σ' H')/\tb {D with nx:=N,ct:=N,bk:=D.nx} σ H1 else D.nx σ H1
def abe{c:Expr}{gZ:List Stmt}{tc:TT}{tb:TS}(hp:PassesOwn É X.A X.env X.xe)(hc:PT X c tc)(hb:lx X gZ tb):PS X (.While c gZ [] pos) (abd tc tb):=by
 intro pins s σ H D I h;let(W,(m0,w0),turn):=h;apply wpAny_While (codeAny_whileLoop (λn s'=>∃σ' H',ϵ s'/\W n σ' H') ?_ m0 ⟨σ,H,I,w0⟩);rintro n s1 ⟨σ1,H1,I1,w1⟩;apply Bi hp (aL (hc pins s1 σ1 H1 _ I1 (turn n σ1 H1 w1)) λb s2 ⟨Z,I2,m⟩=>?_);cases b with
 |true=>
  let(N,hN,m):=m;rw[af rfl];apply Bi hp (aL (hb pins s2 σ1 Z _ I2 m) λf s3 z=>?_);cases f with
  |next=>
   let(σ3,j,F,U):=z;let(O,J,Y):=hN σ3 j U;exact(O,J,σ3,j,F,Y)
  |cont=>
   let(σ3,j,F,U):=z;let(O,J,Y):=hN σ3 j U;exact(O,J,σ3,j,F,Y)
  |brk=>exact z
  |ret v=>exact z
 |false=>
  rw[ag d8];exact D1 ⟨σ1,Z,I2,m⟩
structure It where
 go:Nat->Hp->Prop
 nN:Nat->Hp->V->Hp->Prop
 stop:Nat->Hp->Prop
def mw(X:Cx)(pins:bJ)(H:Hp)(b:Addr):Prop:=
 H b=Β/\b≠X.env.locals/\b∉X.fs/\(b∈X.ex\/X.ib.Z<=b)/\(∀x c,X.env.cells.Q x=Α c->c≠b)/\∀p∈X.pn++pins,p.1≠b
def Inv.vX(I:Ã H s)(j:s.Z<=b)(m:H' b=Β):Ņ H' b:=by
 apply(m,qS (iD I.lt j),I.aaX j,.inr (gS I.sz j),λx c e z=>?_,λp F z=>?_)
 .let(v,q):=I.cell x c e;exact absurd (iD q.lt Å) (qT _)
 .exact absurd (iD (cq (I.pin p F).1) Å) (qT _)
structure Turn(P:Pg)(w:Wd)(K:FR)(tg:Expr)(J:It)(fp:LA)(it:Addr)(tn:Nat->Heap->Prop):Prop where
 mem:it∈fp
 obj:∀i h,tn i h->∀b∈fp,∃o,h.I b=Α o/\∀v,o.data≠ .cell v
 keep:∀i h h',tn i h->(∀b∈fp,∀o,h.I b=Α o->h'.I b=Α o)->tn i h'
 item:∀(X:Cx),X.prog=P->X.w=w->X.K=K->X.calm=true->∀(i:Nat)(pins:bJ)(s:Sh)(σ:St)(H:Hp)(E:VP),Ã H s->(∀b∈fp,Ņ H b)->tn i s.H->J.go i H->
  wpAny Àr X.A Çx (λr s1=>∃u,r=Α u/\
   wpAny Àr X.A (letOwnedTupleGo tg ũ u) (λ_ s2=>∃x H',Ã H' s2/\RelV x u/\J.nN i H x H'/\tn (i+1) s2.H/\∀b∈fp,H' b=Β) E s1) E s
 done:∀(X:Cx),X.prog=P->X.w=w->X.K=K->X.calm=true->∀(i:Nat)(pins:bJ)(s:Sh)(σ:St)(H:Hp)(E:VP),Ã H s->(∀b∈fp,Ņ H b)->tn i s.H->J.stop i H->
  wpAny Àr X.A Çx (λr s1=>r=Β/\Ã H s1) E s
 self:∀(A:Around)(i:Nat)(s:Sh)(Q:VP)(E:VP),tn i s.H->Q ũ s->wpAny Àr A (pyIter ũ) Q E s
abbrev TI:=St->Hp->(It->Hp->Prop)->Prop
def BI(X:Cx)(pins:bJ)(σ:St)(tg:Expr)(R:It->Hp->Prop)(m:Value)(j:Sh):Prop:=
 ∃(it:Addr)(fp:LA)(tn:Nat->Heap->Prop)(J:It)(H':Hp),m=.ref it/\Ã H' j/\Turn X.prog X.w X.K tg J fp it tn/\tn 0 j.H/\(∀b∈fp,Ņ H' b)/\R J H'
def PI(X:Cx)(tg iter:Expr)(W:TI):Prop:=
 ∀(pins:bJ)(s:Sh)(σ:St)(H:Hp)(R:It->Hp->Prop),Ã H s->W σ H R->
  wpAny É X.A (eval iter X.env) (λv j=>wpAny É X.A (pyIter v) Äy X.xe j) X.xe s
def EC(z:s.U it=Α o)(hc:o.cls=.type n)(hd:o.data=.fields vs)(m:["enumerate","zip","dict_itemiterator","dict_reverseitemiterator","odict_iterator","itertools.zip_longest","itertools.pairwise"].Y n=false) (j:Q () s):Ś (letOwnedTupleGo tg ũ u) Q E s:=by
 ext letOwnedTupleGo;cases tg <;> first
  |exact aP j
  |(cases u <;> first
    |exact aP j
    |(apply au (wpAny_load z ?_)
      rw[hc,hd];show wpAny M A (if (["enumerate","zip","dict_itemiterator","dict_reverseitemiterator","odict_iterator","itertools.zip_longest","itertools.pairwise"].Y n&&vs[0]? ==Α (rawInt _))=true then _ else _) Q E s;rw[ag (by intro h;rw[m,lU] at h;cases h)];exact aP j))
def vY(K:FR)(a:Addr):It:=
 ⟨λi H=>∃xs x,ã a xs/\xs[i]? =Α x,λi H x H'=>H'=H/\∀xs,ã a xs->xs[i]? =Α x,λi H=>∃xs,ã a xs/\xs.L<=i⟩
def xP(lo:Int)(n:Nat):It:=⟨λi _=>i<n,λi H x H'=>H'=H/\x=.int (lo+i),λi _=>n<=i⟩
def abf{P:Pg}{w:Wd}{K:FR}{tg:Expr}(a it:Addr):Turn P w K tg (vY K a) [it] it (λi h=>h.IsListIter it a i) where
 mem:=by simp
 obj:=λi h st b hb=>by
  let e:b=it:=À hb
  subst e;let(o,e,c,d):=st;exact(o,e,λv z=>by rw[d] at z;cases z)
 keep:=λi h h' st k=>st.at λo e=>k it Ä o e
 item:=by
  show Ó;subst hP hw hK;let(xs,x,j,m):=hg;let(U,F,p,hz):=I.list j;let(u,W,Z):=F.get m;show ë;apply wpAny_pyNext_list_item st p.isList (x:=u) (À W) λh' J sb=>?_;let O:Ã H {s with heap:=h'}:=I.turned (t':=s.toks) (λb o hb e=>(sb.2 b hb).R e) f0 f1 f3 f4 f5;let(o,e,c,d):=id J;exact(u,Á,EC (s:={s with heap:=h'}) e c d Ù ⟨x,H,O,Z,⟨Á,λys Y=>by rw[I.BF Y j];exact m⟩,J,λb hb=>(hf b hb).1⟩)
 done:=by
  show Ó;subst hP hw hK;let(xs,j,m):=hg;let(U,F,p,hz):=I.list j;show ë;let hl:=F.L;exact wpAny_pyNext_list_end Ā st p.isList (by simp;symm) λh' eb=>⟨Á,I.turned (t':=s.toks) Ϙ f0 f1 f3 f4 f5⟩
 self:=λ_ _ _ _ _ st h=>wpAny_pyIter_listiter st h
def abg{P:Pg}{w:Wd}{K:FR}{tg:Expr}(it:Addr)(lo:Int)(n:Nat):Turn P w K tg (xP lo n) [it] it (λi h=>IsRangeIter h it (lo+(i:Nat)*1) ((n:Int)-(i:Nat)) 1) where
 mem:=by simp
 obj:=λi h st b hb=>by
  let e:b=it:=À hb
  subst e;exact⟨_,st,λv z=>by
   let Z:Data.fields _=Data.cell v:=z;cases Z⟩
 keep:=λi h h' st k=>k it Ä _ st
 item:=by
  show Ó;subst hP hw hK;show ë;let W:=Walks.range (prog:=X.prog) (w:=X.w) Ā it lo 1 n;apply W.item i s _ _ hg st λv h' tk F m J=>?_;let(t,rfl):=F;let j:Ã H {s with heap:=h',toks:=tk}:=I.turned (λb o hb e=>J b o (À hb) e) f0 f1 f3 f4 f5;apply⟨_,Á,EC (s:={s with heap:=h',toks:=tk}) (n:="range_iterator") m Á Á Ù ⟨.int (lo+i),H,j,⟨t,?_⟩,⟨Á,Á⟩,m,λb hb=>(hf b hb).1⟩⟩;rw[Int.mul_one]
 done:=by
  show Ó;subst hP hw hK;show ë;exact wpAny_pyNext_range_end Ā st (by let:n<=i:=hg;lia) λh' eb=>⟨Á,I.turned (t':=s.toks) Ϙ f0 f1 f3 f4 f5⟩
 self:=λ_ _ _ _ _ st h=>wpAny_pyIter_rangeiter st h
def abh(K:FR)(tl:TE):TI:=λσ H R=>tl σ H λx H1=>∃a,x=.ref a/\(∃xs,aa K H1 a xs)/\R (vY K a) H1
def eW{l:Expr}{tl:TE}(z:PE X l tl):PI X tg l (abh X.K tl):=by
 intro pins s σ H R I h;apply aL (z pins s σ H _ I h) λv j ⟨x,H1,I1,O,J⟩=>?_;let(a,e,(xs,F),q):=J;subst e;cases O;let(U,W,p,hz):=I1.list F;apply P8 p.isList ?_;apply(j.Z,[j.Z],_,_,H1,Á,I1.kept (t':=j.toks) λb o e=>cf _ e,abf a _,⟨_,eY _ Á,Á,Á⟩,λb m=>?_,q);let e:b=j.Z:=À m
 subst e;exact I1.vX (bw _) Ãw
def Q4{pins:bJ}{σ:St}{H:Hp}{s:Sh}{R:It->Hp->Prop}{E:VP}{lo hi:Int}{t u v:Tok}{tk:Nat}(I:Ã H s)(z: -(2^62)<=lo)(h2:lo<2^62)(F: -(2^62)<=hi)(J:hi<2^62)(q:R (xP lo (hi-lo).toNat) H):wpAny É X.A (pyIter î) Äy E {s with heap:=s.o {cls:=.type "range",data:=.fields #[.int lo t,.int hi u,.int 1 v]},toks:=tk}:=by
 apply wpAny_pyIter_range (IsRange.new ..) (small_one z h2 F J) ?_;let I1:Ã H {s with heap:=s.o {cls:=.type "range",data:=.fields #[.int lo t,.int hi u,.int 1 v]},toks:=tk}:=I.kept λb o e=>cf _ e;refine⟨(s.o {cls:=.type "range",data:=.fields #[.int lo t,.int hi u,.int 1 v]}).O,[(s.o {cls:=.type "range",data:=.fields #[.int lo t,.int hi u,.int 1 v]}).O],_,_,H,Á,
  I1.kept (t':=tk) λb o e=>cf _ e,abg _ lo (hi-lo).toNat,?_,λb O=>?_,q⟩
 .let j:lo+((0:Nat):Int)*1=lo:=by simp
  let m:(((hi-lo).toNat:Nat):Int)-((0:Nat):Int)=Builtin.Range.rangeSize lo hi 1:=by rw[rangeSize_one];split <;> grind
  show IsRangeIter _ _ (lo+((0:Nat):Int)*1) ((((hi-lo).toNat:Nat):Int)-((0:Nat):Int)) 1;rw[j,m];exact eY _ Á
 .let e:b=(s.o {cls:=.type "range",data:=.fields #[.int lo t,.int hi u,.int 1 v]}).O:=by simpa using O
  subst e;exact I1.vX (bw _) Ãw
def abi(ta:TA):TI:=λσ H R=>ta σ H λvs H1=>∃j:Int,vs=[.int j]/\ -(2^62)<=j/\j<2^62/\R (xP 0 j.toNat) H1
def abj(ta:TA):TI:=λσ H R=>ta σ H λvs H1=>∃i j:Int,vs=[.int i,.int j]/\(-(2^62)<=i/\i<2^62/\ -(2^62)<=j/\j<2^62)/\R (xP i (j-i).toNat) H1
def Jg{a:Expr}{ta:TA}{p pos:Pos}(hg:Gl X "range")(hm:X.mg "range"=Β)(F:PA X [a] ta)(hs:starEach [a] X.env=[(false,eval a X.env)]:=by rfl):PI X tg (.Call (.Name "range" p) [a] [] pos) (abi ta):=by
 intro pins s σ H R I h;apply Call_ (Àp boot_range (D4 (aL (F pos pins s σ H _ I h) λY W ⟨vs,H1,z,O,m⟩=>?_) hs Á));let(j,e,m,J,q):=m;subst e;cases O with
 |cons r U=>
  cases U;let(t,rfl):=r;exact call_range_1 (Q4 z Å Å m J Å)
def abl(hg:Gl X "range")(hm:X.mg "range"=Β)(J:PA X [a,b] ta)(hs:starEach [a,b] X.env=[(false,eval a X.env),(false,eval b X.env)]:=by rfl)(sR:starEach [b] X.env=[(false,eval b X.env)]:=by rfl):
  PI X tg (.Call (.Name "range" p) [a,b] [] pos) (abj ta):=by
 intro pins s σ H R I h;apply Call_ (Àp boot_range (D4 (aL (J pos pins s σ H _ I h) λus s1 ⟨vs,H1,F,Z,m⟩=>?_) Å (by rw[sR];rfl)));let(i,j,e,(m,O,U,W),q):=m;subst e;cases Z with
 |cons r z=>
  cases z with
  |cons Y z=>
   cases z;let(t,rfl):=r;let(t',rfl):=Y;exact call_range_2 (Q4 F m O U W q)
def abm(F:TI)(g:TG)(tb:TS):TS:=λD σ H=>F σ H λJ H1=>∃W:Nat->Nat->St->Hp->Prop,(∃m,W 0 m σ H1)/\∀i m σ H,W i m σ H->
 (J.stop i H/\D.nx σ H)\/(J.go i H/\∃N:St->Hp->Prop,(∀σ' H',N σ' H'->∃j,j<m/\W (i+1) j σ' H')/\∀x H',J.nN i H x H'->g x σ H' λσ2 z=>tb {D with nx:=N,ct:=N,bk:=D.nx} σ2 z)
def BJ(fp:LA)(h:Heap):bJ:=fp.filterMap λb=>(h.I b).M λo=>(b,o)
def Jh(j:b∈fp)(e:h.I b=Α o):(b,o)∈BJ fp h:=Ii.mpr ⟨b,j,by rw[e];rfl⟩
def abn(j:p∈BJ fp h):p.1∈fp/\h.I p.1=Α p.2:=by
 let(b,m,e):=Ii.mp j;cases q:h.I b with
 |none=>symm
 |some o=>
  grind
def Inv.pinned(I:Ã H s)(U:∀b∈fp,Ņ H b)(W:∀b∈fp,∃o,s.U b=Α o/\∀v,o.data≠ .cell v):Inv X (pins++BJ fp s.H) σ H s:=
 I.IW λp Y=>(gM.mp Y).elim (λz=>I.pin p (uI _ z)) λz=>by
  let(m,e):=abn z;let(F,J,O,_):=U p.1 m;let(o,j,d):=W p.1 m;rw[e] at j;cases j;exact(e,F,J,O,d)
def Inv.ED(I:Inv X (pins++pl) σ H s):Ã H s:=I.IW λp j=>I.pin p (uI _ (Bh _ j))
def nO(U:PassesOwn É X.A X.env X.xe)(hc:X.calm=true)(hi:PI X tg iter wi)(hg:PG X tg g)(F:lx X gZ tb)(hs:∀x,foldedSetIterable iter X.env x=pure x:=by intro _;rfl):PS X (.For tg iter gZ [] pos) (abm wi g tb):=by
 intro pins s σ H D I h;apply wpAny_For (aL (hi pins s σ H _ I h) λv s1 h1=>aL h1 λJf s2 h2=>?_) hs;let(it,fp,tn,J,H2,e,I2,T,EE,f2,W,(m0,w0),turn):=h2;subst e;let xQ:∀{H':Hp},(∀b∈fp,H' b=Β)->∀b∈fp,Ņ H' b:=λhn b F=>⟨hn b F,(f2 b F).2⟩;apply codeAny_forLoop_any (λn s'=>∃i σ' H',ϵ s'/\tn i s'.H/\(∀b∈fp,H' b=Β)/\W i n σ' H') ?_ m0 ⟨0,σ,H2,I2,EE,λb F=>(f2 b F).1,w0⟩;rintro n s3 ⟨i,σ3,Z,I3,EF,Q5,w3⟩;rcases turn i n σ3 Z w3 with ⟨stop,qn⟩|⟨go,N,hN,step⟩
 .apply Bi U (aL (T.done X Á Á Á hc i pins s3 σ3 Z X.xe I3 (xQ Q5) EF stop) λr s4 ⟨hr,I4⟩=>?_);subst hr;exact D1 ⟨σ3,Z,I4,qn⟩
 .apply Bi U (aL (T.item X Á Á Á hc i pins s3 σ3 Z X.xe I3 (xQ Q5) EF go) λr s4 ⟨u,hr,h4⟩=>?_);subst hr;apply Bi U (aL h4 λ_ s5 ⟨x,H5,I5,r5,y5,zC,fr5⟩=>?_);let I5':=I5.pinned (xQ fr5) (T.obj _ _ zC);apply Bi U (aL (hg _ s5 σ3 H5 x u _ I5' r5 (step x H5 y5)) λ_ s6 ⟨σ6,H6,I6,q6⟩=>?_);apply Bi U (aL (F _ s6 σ6 H6 _ I6 q6) λf s7 O=>?_);let again:∀{σ7:St}{j:Hp},Inv X (pins++BJ fp s5.H) σ7 j s7->N σ7 j->∃m,m<n/\∃i σ' H',ϵ s7/\tn i s7.H/\(∀b∈fp,H' b=Β)/\W i m σ' H':=λ{σ7 j}z Y=>by
   let(m',hm,w7):=hN σ7 j Y;apply(m',hm,i+1,σ7,j,z.ED,T.keep _ _ _ zC λb F o e=>(z.pin (b,o) (uI _ (uI _ (Jh F e)))).1,λb F=>?_,w7);let(o,e,d):=T.obj _ _ zC b F;exact(z.pin (b,o) (uI _ (uI _ (Jh F e)))).2.1
  cases f with
  |next=>let(σ7,j,z,Y):=O;exact again z Y
  |cont=>let(σ7,j,z,Y):=O;exact again z Y
  |brk=>let(σ7,j,z,O):=O;exact(σ7,j,z.ED,O)
  |ret v=>let(x7,σ7,j,z,r7,O):=O;exact(x7,σ7,j,z.ED,r7,O)
def xR{K:FR}{a:Addr}{xs:ay}{g:TG}{tb:TS}{D:Ends}{σ:St}{H:Hp}(Pv:Nat->St->Hp->Prop)(h0:Pv 0 σ H)(J:∀i σ H,i<=xs.L->Pv i σ H->ã a xs)(hs:∀i x σ H,xs[i]? =Α x->Pv i σ H->g x σ H λσ2 j=>tb {D with nx:=Pv (i+1),ct:=Pv (i+1),bk:=D.nx} σ2 j) (hd:∀σ H,Pv xs.L σ H->D.nx σ H):
  ∃W:Nat->Nat->St->Hp->Prop,(∃m,W 0 m σ H)/\∀i m σ H,W i m σ H->
   ((vY K a).stop i H/\D.nx σ H)\/((vY K a).go i H/\∃N:St->Hp->Prop,(∀σ' H',N σ' H'->∃F,F<m/\W (i+1) F σ' H')/\∀x H',(vY K a).nN i H x H'->g x σ H' λσ2 j=>tb {D with nx:=N,ct:=N,bk:=D.nx} σ2 j):=by
 refine ð;rintro i m σ H ⟨rfl,hi,p⟩;let q:=J i σ H hi p;by_cases z:i<xs.L
 .apply .inr ⟨⟨xs,xs[i],q,by simp[z]⟩,Pv (i+1),λσ' H' O=>⟨xs.L-(i+1),by grind,rfl,z,O⟩,λx H' y=>?_⟩;let(e,y):=y;subst e;exact hs i x σ _ (y xs q) p
 .let e:i=xs.L:=by lia
  subst e;exact .inl ⟨⟨xs,q,bw _⟩,hd σ H p⟩
abbrev R2:=V->V->Hp->VK->Prop
def eU(X:Cx)(f:Value->Value->Sem Value)(r:R2):Prop:=
 ∀(pins:bJ)(s:Sh)(σ:St)(H:Hp)(x y:V)(v u:Value)(Q:VK),Ã H s->RelV x v->RelV y u->r x y H Q->
  wpAny É X.A (f v u) (ô Q) X.xe s
def EG(X:Cx)(f:Value->Sem Value)(r:V->Hp->VK->Prop):Prop:=
 ∀(pins:bJ)(s:Sh)(σ:St)(H:Hp)(x:V)(v:Value)(Q:VK),Ã H s->RelV x v->r x H Q->
  wpAny É X.A (f v) (ô Q) X.xe s
def j5(X:Cx)(f:Value)(r:ay->Hp->VK->Prop):Prop:=
 ∀(pins:bJ)(s:Sh)(σ:St)(H:Hp)(xs:ay)(U:LV)(Q:VK),Ã H s->a9 xs U->r xs H Q->
  wpAny É X.A (call f U) (ô Q) X.xe s
def abq(X:Cx)(r:V->Hp->(Bool->Hp->Prop)->Prop):Prop:=
 ∀(pins:bJ)(s:Sh)(σ:St)(H:Hp)(x:V)(v:Value)(Q:Bool->Hp->Prop),Ã H s->RelV x v->r x H Q->
  wpAny É X.A (truthy v) Ây X.xe s
def bV(r:R2)(ta tb:TE):TE:=λσ H Q=>ta σ H λx H1=>tb σ H1 λy j=>r x y j Q
def EH(r:V->Hp->VK->Prop)(ta:TE):TE:=λσ H Q=>ta σ H λx H1=>r x H1 Q
inductive rI(C:Int->Int->Prop)(g:Int->Int->V)(x:V)(y:V)(H:Hp)(Q:VK):Prop
 |mk (i j:_) (_:x=.int i) (_:y=.int j) (_:C i j) (_:Q Äq H)
inductive gu(g:Int->Int->V)(x:V)(y:V)(H:Hp)(Q:VK):Prop
 |mk (i j:_) (_:x=.int i) (_:y=.int j) (_:Q Äq H)
inductive rU(g:Int->V)(x:V)(H:Hp)(Q:VK):Prop
 |mk (i:_) (_:x=.int i) (_:Q (g i) H)
def Ji(J:PE X a ta)(O:PE X b tb){pins:bJ}{s:Sh}{σ:St}{H:Hp}{R:V->V->Hp->Prop}(I:Ã H s)(h:ta σ H λx H1=>tb σ H1 λy j=>R x y j) {Q:VP} {f:Value->Value->Sem Value}(U:∀v u m x y j,Ã j m->RelV x v->RelV y u->R x y j->wpAny É X.A (f v u) Q X.xe m):
  wpAny É X.A (eval a X.env) (λv s₁=>wpAny É X.A (eval b X.env) (λu s₂=>wpAny É X.A (f v u) Q X.xe s₂) X.xe s₁) X.xe s:=by
 apply aL (J pins s σ H _ I h) λv s1 ⟨x,H1,z,Z,W⟩=>?_;apply aL (O pins s1 σ H1 _ z W) λu m ⟨y,j,F,r2,Y⟩=>?_;exact U v u m x y j F Z r2 Y
def eP{op:Operator}{r:R2}(J:eU X (binaryOp op) r)(z:PE X a ta)(F:PE X b tb):PE X (.BinOp a op b pos) Çd:=by
 show Ö;exact wpAny_BinOp (Ji z F I h λv u W x y j m O U q=>J pins W σ j x y v u Q m O U q)
def jt(z:EG X (unaryOp op) r)(m:PE X a ta):PE X (.UnaryOp op a pos) (EH r ta):=by
 show Ö;exact UnaryOp_ (aL (m pins s σ H _ I h) λv O ⟨x,H1,j,J,F⟩=>z pins O σ H1 x v Q j J F)
def BK{f:Value->Value->Sem Value}{C:Int->Int->Prop}{g:Int->Int->Int}(rule:∀(i j:Int)(t u:Tok)(s:Sh)(Q:VP)(E:VP),C i j->Q (.int Äq s.toks) {s with toks:=s.toks+1}->wpAny É X.A (f Áw (.int j u)) Q E s):
  eU X f (rI C λi j=>.int Äq):=by
 show ò;let(i,j,rfl,rfl,hc,q):=h;let(t,rfl):=rx;let(t',rfl):=ry;exact rule i j t t' s _ _ hc ⟨.int Äq,H,I.tok _,⟨_,Á⟩,q⟩
def EI{f:Value->Value->Sem Value}{g:Int->Int->Int}(rule:∀(i j:Int)(t u:Tok)(s:Sh)(Q:VP)(E:VP),Q (.int Äq s.toks) {s with toks:=s.toks+1}->wpAny É X.A (f Áw (.int j u)) Q E s):
  eU X f (gu λi j=>.int Äq):=by
 show ò;let(i,j,rfl,rfl,q):=h;let(t,rfl):=rx;let(t',rfl):=ry;exact rule i j t t' s _ _ ⟨.int Äq,H,I.tok _,⟨_,Á⟩,q⟩
def EJ{f:Value->Value->Sem Value}{g:Int->Int->Bool}(rule:∀(i j:Int)(t u:Tok)(s:Sh)(Q:VP)(E:VP),Q (.bool Äq) s->wpAny É X.A (f Áw (.int j u)) Q E s):
  eU X f (gu λi j=>.bl Äq):=by
 show ò;let(i,j,rfl,rfl,q):=h;let(t,rfl):=rx;let(t',rfl):=ry;exact rule i j t t' s _ _ ⟨.bl Äq,H,I,Á,q⟩
def abr(i j:Int):Prop:=0<j/\j<1073741824
def Q6(i j:Int):Prop:=0<=j/\j<=1000000/\i.natAbs<2^64
def Jj(i j:Int):Prop:=(-(2^64)<i/\i<2^64)\/(-(2^64)<j/\j<2^64)
def Jj.ok(h:Jj i j):IntMulOk i j:=by
 rcases h with ⟨m,h2⟩|⟨m,h2⟩
 .exact .of_left (intBits_le_64 m h2)
 .exact .of_right (intBits_le_64 m h2)
def abt(k:Nat):(0:Int)<=2^k:=by
 grind
def rl:eU X (binaryOp .Add) (gu λi j=>.int (i+j)):=EI λ_ _ _ _ _ _ _ q=>add_int q
def rn:eU X (binaryOp .Sub) (gu λi j=>.int (i-j)):=EI λ_ _ _ _ _ _ _ q=>sub_int q
def abu:eU X (binaryOp .Mult) (rI Jj λi j=>.int (i*j)):=BK λ_ _ _ _ _ _ _ hc q=>mul_int q hc.ok
def abv:eU X (binaryOp .FloorDiv) (rI abr λi j=>.int (i/j)):=BK λi j _ _ _ _ _ hc q=>by
 let m:(0:Int)<j:=hc.1;let h2:j<1073741824:=hc.2;exact floordiv_int Ô (by grind) (.inl (PyProof.noPylong_small á))
def Jk:eU X (binaryOp .Mod) (rI (λ_ j=>0<j) λi j=>.int (i%j)):=BK λi j _ _ _ _ _ hc q=>by
 let m:(0:Int)<j:=hc;exact mod_int' Ô (by rw[Int.fmod_eq_emod_of_nonneg i Ô];exact q)
def Jl:eU X (binaryOp .LShift) (rI Q6 λi j=>.int (i*2^j.toNat)):=BK λ_ _ _ _ _ _ _ hc q=>lshift_int_small hc.1 hc.2.1 hc.2.2 q
def Q7:eU X (binaryOp .RShift) (rI (λ_ j=>0<=j) λi j=>.int (i/2^j.toNat)):=BK λi j _ _ _ _ _ hc q=>
 rshift_int hc (by rw[Int.fdiv_eq_ediv_of_nonneg i (abt _)];exact q)
def BL:eU X (binaryOp .BitAnd) (gu λi j=>.int ř):=EI λ_ _ _ _ _ _ _ q=>and_int q
def abw:eU X (inplaceOp .Add) (gu λi j=>.int (i+j)):=EI λ_ _ _ _ _ _ _ q=>iadd_int q
def Q8{f:Value->Sem Value}{g:Int->Int}(rule:∀(i:Int)(t:Tok)(s:Sh)(Q:VP)(E:VP),Q (.int (g i) s.toks) {s with toks:=s.toks+1}->wpAny É X.A (f Áw) Q E s):
  EG X f (rU λi=>.int (g i)):=by
 intro pins s σ H x v Q I j h;let(i,rfl,q):=h;let(t,rfl):=j;exact rule i t s _ _ ⟨.int (g i),H,I.tok _,⟨_,Á⟩,q⟩
def j6:EG X (unaryOp .USub) (rU λi=>.int (-i)):=Q8 λ_ _ _ _ _ q=>neg_int q
def Q9:EG X (unaryOp .Invert) (rU λi=>.int Åf):=Q8 λ_ _ _ _ _ q=>invert_int q
def Ra:V->V->Bool
 |.aK,.aK=>true|.aK,.int _=>true|.int _,.aK=>true|.aK,.bl _=>true|.bl _,.aK=>true|.aK,.str _=>true|.str _,.aK=>true
 |.int _,.int _=>true|.bl _,.bl _=>true|.str _,.str _=>true|.jr _,.jr _=>true
 |.int _,.str _=>true|.str _,.int _=>true|.bl _,.str _=>true|.str _,.bl _=>true
 |_,_=>false
def oW:R2:=λx y H Q=>Ra x y=true/\Q (.bl (decide (x=y))) H
def rNe:R2:=λx y H Q=>Ra x y=true/\Q (.bl (!decide (x=y))) H
def my:decide (V.int i=V.int j)=(i==j):=by
 grind
def Rb:decide (V.bl i=V.bl j)=(i==j):=by
 grind
def Rc:decide (V.str i=V.str j)=(i==j):=by
 grind
def Re:decide (V.jr i=V.jr j)=(i.toList==j.toList):=by
 rw[pW];simp
def gw(I:Ã H s)(q:Q (.bl k) H)(e:k=k'):ô Q (.bool k') s:=by
 subst e;exact(.bl k,H,I,Á,q)
def ir:eU X Áo oW:=by
 show ò;let(hs,q):=h;cases x with
 |aK=>
  cases rx;cases y with
  |aK=>cases ry;exact PySem.EqNone.eq_none_none Ĉ
  |bl j=>cases ry;exact PySem.EqNone.eq_none_bool Ĉ
  |int j=>let(t',rfl):=ry;exact PySem.EqNone.eq_none_int Ĉ
  |str j=>let(t',rfl):=ry;exact PySem.EqNone.eq_none_str Ĉ
  |_=>exact absurd (show false=true from hs) d8
 |bl i=>
  cases rx;cases y with
  |aK=>cases ry;exact PySem.EqNone.eq_bool_none Ĉ
  |bl j=>cases ry;exact eq_bool (gw I q Rb)
  |str j=>let(t',rfl):=ry;exact PySem.EqMixed.eq_bool_str Ĉ
  |_=>exact absurd (show false=true from hs) d8
 |int i=>
  let(t,rfl):=rx;cases y with
  |aK=>cases ry;exact PySem.EqNone.eq_int_none Ĉ
  |int j=>let(t',rfl):=ry;exact eq_int (gw I q my)
  |str j=>let(t',rfl):=ry;exact PySem.EqMixed.eq_int_str Ĉ
  |_=>exact absurd (show false=true from hs) d8
 |str i=>
  let(t,rfl):=rx;cases y with
  |aK=>cases ry;exact PySem.EqNone.eq_str_none Ĉ
  |bl j=>cases ry;exact PySem.EqMixed.eq_str_bool Ĉ
  |int j=>let(t',rfl):=ry;exact PySem.EqMixed.eq_str_int Ĉ
  |str j=>let(t',rfl):=ry;exact eq_str (gw I q Rc)
  |_=>exact absurd (show false=true from hs) d8
 |jr i=>
  let(t,rfl):=rx;cases y with
  |jr j=>let(t',rfl):=ry;exact PySem.W.eq_bytes (gw I q Re)
  |_=>exact absurd (show false=true from hs) d8
 |_=>cases y <;> exact absurd (show false=true from hs) d8
def vZ:eU X Áv rNe:=by
 show ò;let(hs,q):=h;cases x with
 |aK=>
  cases rx;cases y with
  |aK=>cases ry;exact PySem.EqNone.ne_none_none Ĉ
  |bl j=>cases ry;exact PySem.EqNone.ne_none_bool Ĉ
  |int j=>let(t',rfl):=ry;exact PySem.EqNone.ne_none_int Ĉ
  |str j=>let(t',rfl):=ry;exact PySem.EqNone.ne_none_str Ĉ
  |_=>exact absurd (show false=true from hs) d8
 |bl i=>
  cases rx;cases y with
  |aK=>cases ry;exact PySem.EqNone.ne_bool_none Ĉ
  |bl j=>cases ry;exact ne_bool (gw I q (cw not Rb))
  |str j=>let(t',rfl):=ry;exact PySem.EqMixed.ne_bool_str Ĉ
  |_=>exact absurd (show false=true from hs) d8
 |int i=>
  let(t,rfl):=rx;cases y with
  |aK=>cases ry;exact PySem.EqNone.ne_int_none Ĉ
  |int j=>let(t',rfl):=ry;exact ne_int (gw I q (cw not my))
  |str j=>let(t',rfl):=ry;exact PySem.EqMixed.ne_int_str Ĉ
  |_=>exact absurd (show false=true from hs) d8
 |str i=>
  let(t,rfl):=rx;cases y with
  |aK=>cases ry;exact PySem.EqNone.ne_str_none Ĉ
  |bl j=>cases ry;exact PySem.EqMixed.ne_str_bool Ĉ
  |int j=>let(t',rfl):=ry;exact PySem.EqMixed.ne_str_int Ĉ
  |str j=>let(t',rfl):=ry;exact ne_str (gw I q (cw not Rc))
  |_=>exact absurd (show false=true from hs) d8
 |jr i=>
  let(t,rfl):=rx;cases y with
  |jr j=>let(t',rfl):=ry;exact PySem.W.ne_bytes (gw I q (cw not Re))
  |_=>exact absurd (show false=true from hs) d8
 |_=>cases y <;> exact absurd (show false=true from hs) d8
def xS:eU X Çs (gu λi j=>.bl (decide (i<j))):=EJ λ_ _ _ _ _ _ _ q=>lt_int q
def xT:eU X (compareOp .LtE) (gu λi j=>.bl (decide (i<=j))):=EJ λ_ _ _ _ _ _ _ q=>le_int q
def wa:eU X (compareOp .Gt) (gu λi j=>.bl (decide (j<i))):=EJ λ_ _ _ _ _ _ _ q=>gt_int q
def bW(b:Expr)(h:op≠ .In:=by decide)(h2:op≠ .NotIn:=by decide):behindInMarks op b=false:=by
 let j:(op==CmpOp.In)=false:=by cases op <;> first|rfl|exact absurd Á h
 let m:(op==CmpOp.NotIn)=false:=by cases op <;> first|rfl|exact absurd Á h2
 cases b <;> simp[behindInMarks,j,m]
def jI{op:CmpOp}{r:R2}(O:eU X Äu r)(z:PE X a ta)(F:PE X b tb)(J:behindInMarks op b=false):PE X ϡ Çd:=by
 show Ö;exact wpAny_Compare1 (Ji z F I h λv u Y x y j m U W q=>O pins Y σ j x y v u Q m U W q) J
def nP(t:TE):TT:=λσ H Q=>t σ H λx H'=>zA x λk=>Q k H'
def cV(Z:eU X Äu r)(U:PE X a ta)(W:PE X b tb)(Y:behindInMarks op b=false):PT X ϡ (nP Çd):=by
 show Ö;refine wpAny_isTrue_Compare1 (aL (U pins s σ H _ I h) λv s1 ⟨x,H1,F,r1,q1⟩=>aL (W pins s1 σ H1 _ F q1) λu s2 ⟨y,j,J,r2,q2⟩=>
  aL (Z pins s2 σ j x y v u _ J r1 r2 q2) λc s3 ⟨z,m,O,r3,k,e,q3⟩=>?_) Y
 subst e;cases r3;exact uH ⟨m,O,q3⟩
def Jm(r J:R2)(ta tb O:TE):TE:=λσ H Q=>ta σ H λx H1=>tb σ H1 λy m=>r x y m λz j=>zA z λk=>
 (if k=true then O σ j λW F=>J y W F Q else Q (.bl false) j)
theorem Rf(ho:eU X Äu r)(p9:eU X (compareOp op') r')(ha:PE X a ta)(hb:PE X b tb)(hc:PE X c tc)(hm:lastMarks [op,op'] [b,c]=false:=by with_unfolding_all rfl):PE X (.Compare a [op,op'] [b,c] pos) (Jm r r' ta tb tc):=by
 show Ö;refine Compare_chain (aL (ha pins s σ H _ I h) λv s1 ⟨x,H1,W,r1,q1⟩=>chain_link (aL (hb pins s1 σ H1 _ W q1) λu s2 ⟨y,O,Y,J,q2⟩=>
  aL (ho pins s2 σ O x y v u _ Y r1 J q2) λd s3 ⟨z,j,m,r3,k,e,F⟩=>?_)) hm
 subst e;cases r3;apply uH ?_;cases k with
 |false=>exact ite_ff ⟨.bl false,j,m,Á,F⟩
 |true=>exact ite_tt (chain_last (aL (hc pins s3 σ j _ m F) λw' s4 ⟨z',U,Z,r4,q4⟩=>p9 pins s4 σ U y z' u w' Q Z J r4 q4))
theorem aby(ho:eU X Äu r)(p9:eU X (compareOp op') r')(ha:PE X a ta)(hb:PE X b tb)(hc:PE X c tc)(hm:lastMarks [op,op'] [b,c]=false:=by with_unfolding_all rfl):PT X (.Compare a [op,op'] [b,c] pos) (nP (Jm r r' ta tb tc)):=by
 show Ö;refine isTrue_chain (aL (ha pins s σ H _ I h) λv s1 ⟨x,H1,Y,r1,q1⟩=>test_link (aL (hb pins s1 σ H1 _ Y q1) λu s2 ⟨y,O,Z,J,q2⟩=>
  aL (ho pins s2 σ O x y v u _ Z r1 J q2) λd s3 ⟨z,j,m,r3,k,e,F⟩=>?_)) hm
 subst e;cases r3;apply uH ?_;cases k with
 |false=>
  let(k',e',q'):=F;cases e';exact ite_ff ⟨j,m,q'⟩
 |true=>
  apply ite_tt (test_last (aL (hc pins s3 σ j _ m F) λw' s4 ⟨z',U,I4,r4,q4⟩=>aL (p9 pins s4 σ U y z' u w' _ I4 J r4 q4) λd' s5 ⟨z2,W,I5,r5,k2,e2,q5⟩=>?_));subst e2;cases r5;exact uH ⟨W,I5,q5⟩
def Jn(K:FR)(x:V)(H:Hp)(k:Bool):Prop:=
 match x with
 |.aK=>k=false
 |.bl b=>k=b
 |.int i=>k=(i !=0)
 |.str y=>y.L<=sizeLine/\k=((y.L:Int)!=0)
 |.jr y=>y.u<=sizeLine/\k=((y.u:Int)!=0)
 |.ref p=>(∃xs,ã p xs/\k=!xs.isEmpty)\/(∃xs,ŭ p xs/\k=!xs.isEmpty)\/∃kvs,H p=Α ē/\k=!kvs.isEmpty
 |_=>False
def abz(r:KV kvs vs):(!vs.isEmpty)=!kvs.isEmpty:=by
 cases r <;> rfl
def Rg(r:a9 xs aj):(!aj.toArray.isEmpty)=!xs.isEmpty:=by
 cases r <;> simp
def EK:(sizeLine:Nat)<2^63:=by rw[uF];decide
def abA:abq X (λx H Q=>∃k,Jn X.K x H k/\Q k H):=by
 intro pins s σ H x v Q I z h;let(k,e,q):=h;let Z:=EK;let hs:sizeLine=16777216:=uF;cases x with
 |aK=>
  cases z;let j:k=false:=e;subst j;exact truthy_none ⟨H,I,q⟩
 |bl b=>
  cases z;let j:k=b:=e;subst j;exact uH ⟨H,I,q⟩
 |int i=>
  let(t,rfl):=z;let j:k=(i !=0):=e;subst j;exact PySem.P.truthy_int ⟨H,I,q⟩
 |str y=>
  let(t,rfl):=z;obtain⟨Y,j⟩:y.L<=sizeLine/\k=((y.L:Int)!=0):=e;subst j;exact PySem.P.truthy_str Ô ⟨H,I.tok _,q⟩
 |jr y=>
  let(t,rfl):=z;obtain⟨Y,j⟩:y.u<=sizeLine/\k=((y.u:Int)!=0):=e;subst j;exact PySem.W.truthy_bytes Ô ⟨H,I.tok _,q⟩
 |ref p=>
  cases z;let j:(∃xs,ϳ p xs/\k=!xs.isEmpty)\/(∃xs,bz X.K H p xs/\k=!xs.isEmpty)\/∃kvs,H p=Α ē/\k=!kvs.isEmpty:=e;rcases j with ⟨xs,F,j⟩|⟨xs,F,j⟩|⟨kvs,F,j⟩
  .subst j;let(O,r,pl,hz):=I.list F;let J:=r.L;exact wpAny_truthy_list pl.isList (by grind) ⟨H,I.tok _,by rw[Rg r];exact q⟩
  .subst j;let(O,r,pl,hz):=I.tuple F;let J:=r.L;exact truthy_tuple pl (by grind) ⟨H,I.tok _,by rw[Rg r];exact q⟩
  .subst j;obtain⟨hz,U,vs,r,m⟩:kvs.L<=sizeLine/\(p==sysModules)=false/\∃vs,KV kvs vs/\s.H.DictOf ĉ p vs:=I.ax p _ F;let J:kvs.L=vs.L:=Paired.length r;exact wpAny_truthy_dict U m Ô ⟨H,I.tok _,by rw[abz r];exact q⟩
 |_=>exact(show False from e).elim
def zD(m:PE X a ta)(z:∀whole,isTrue a X.env whole=(do let v <-whole;standAt a.pos;holding [v] (truthy v))):
  PT X a (λσ H Q=>ta σ H λx H'=>∃k,Jn X.K x H' k/\Q k H'):=by
 show Ö;exact isTrue_plain (aL (m pins s σ H _ I h) λv O ⟨x,H1,j,J,F⟩=>abA pins O σ H1 x v Q j J F) (z _)
theorem vals1{x:V}{U:LV}(r:a9 [x] U):∃u,U=[u]/\RelV x u:=by
 cases r with
 |cons j m=>cases m;exact(_,Á,j)
theorem vals2(r:a9 [x,y] us):∃u W,us=[u,W]/\RelV x u/\RelV y W:=by
 cases r with
 |cons j m=>
  cases m with
  |cons z F=>cases F;exact(_,_,Á,j,z)
def Jo(hc:X.calm=true):j5 X (.builtin "max") (λxs H Q=>∃i j,xs=[.int i,.int j]/\Q (.int (if j>i then j else i)) H):=by
 intro pins s σ H xs U Q I r h;let(i,j,rfl,q):=h;let(u,W,rfl,(t,rfl),(t',rfl)):=vals2 r;apply max_two_ints Ā λh' tk k=>⟨_,H,I.kept k,?_,q⟩;by_cases m:j>i
 .rw[af m,af m];exact(_,Á)
 .rw[ag m,ag m];exact(_,Á)
def abB:j5 X (.builtin "ord") (λxs H Q=>∃x,xs=[.str x]/\x.L=1/\Q (.int (x.cps.D 0 0:Nat)) H):=by
 intro pins s σ H xs U Q I r h;let(x,rfl,hz,q):=h;let(u,rfl,t,rfl):=vals1 r;exact ord_of_one hz ⟨.int _,H,I.tok _,⟨_,Á⟩,q⟩
structure zE(h:Heap)(x dx C:Addr)(mA:MG):Prop where
 obj:h.I x=Α Âz
 ns:h.Ns1 dx mA
 ne:dx≠x
def abC{h:Heap}{dx:Addr}{mA:MG}(n:h.Ns1 dx mA):∃od,h.I dx=Α od/\∀name,PySem.W.lookIn name od=Α (mA name):=by
 let(o,es,ep,m,hd,hk,_,j):=n;apply(o,m,λname=>?_);let e:=j name;delta nsFind findBy at e;rw[<-Array.find?_toList] at e;ext PySem.W.lookIn;rw[hd];dsimp only;split
 .symm
 .rename_i q;rw[q] at e;let a:es.toList.any (·.refKey)=false:=by
   rw[List.any_eq_false];intro y F;let(z,t,J):=hk y (Array.mem_toList_iff.mp F);simp[DictEntry.refKey,J]
  symm
def zE.look(I:zE h x dx C mA):∃od,PySem.W.InstAt h x Âz C (some od)/\∀name,PySem.W.lookIn name od=Α (mA name):=
 let ⟨od,ho,hl⟩:=abC I.ns
 ⟨od,⟨I.obj,rfl,rfl,ho⟩,hl⟩
section
variable{prog:Pg}{w:Wd}{A:Around}{E:VP}{s:Sh}{K:FR}{x dx C f:Addr}{mA:MG}{name:Str}{v:Value}
def get_map{j:Bool}{Q:VP}(X:K.In s.H)(I:zE s.H x dx C mA)(z:PySem.W.plainGet K C name=true)(F:PySem.W.hasDictIn K C=true)(m:PySem.W.findIn K ą name=Α none) (U:mA name=Α v) (Z:PySem.W.handedIn v=true) (h:Q v {s with toks:=s.toks+1}):
  wpAny Ë A (getAttr Ŧ name j) Q E s:=by
 let(od,J,O):=I.look;exact PySem.W.get_value X J (PySem.W.plainGet_of z).1 (PySem.W.findObj_own F m Á Å) Z h
def abD{ns:LS}{Q:Unit->Shared->Prop}(X:K.In s.H)(I:zE s.H x dx C mA)(hs:PySem.W.findIn K ą "__setattr__"=Α (some (.builtin "object.__setattr__"))) (hp:PySem.W.plainOver K C=true) (ht:PySem.W.takerIn K C name=Α none) (Z:PySem.W.hasDictIn K C=true)(hw:PySem.Within mA ns) (hsz:ns.L<=sizeLine)(h:∀h',zE h' x dx C (λy=>if y=name then some v else mA y)->Heap.SameBut dx s.H h'->Q () {s with heap:=h',toks:=s.toks+2}):
  wpAny Ë A Äj Q E s:=by
 let(od,J,hl):=I.look;apply PySem.W.set_plain X J hs (PySem.W.osa_open (s:={s with toks:=s.toks+1}) (r:=Β) X J hp ht λb=>?_);let(cd,hc,qd):=PySem.W.any_some Z;let hx:s.U x=Α ⟨.ref C,some dx,.plain,#[]⟩:=I.obj;apply au (aP (au (au (wpAny_loadPart hx (au (PySem.W.Looks.here (s:={s with toks:=s.toks+1}) (PySem.W.looks_clsIn X hc) ?_))))));rw[qd];apply aP (a:=Α dx) (au (aP (au ?_)));apply wpAny_nsSet1 (s:={s with toks:=s.toks+1}) I.ns λh' F O=>?_;let(oD,Y,U,z,m,j):=F.count (PySem.Within.cons name v hw);apply au (wpAny_lookBehind z (by rw[m];exact pastItsLine_dict (gS j (by rw[df];symm))) ?_);exact aP (h _ ⟨(O.2 _ (dj I.ne)).R I.obj,F,I.ne⟩ O)
def abH{R:Result->Shared->Prop}{vs:LV}{kw:List (Str×Value)}(X:K.In s.H)(m:PySem.W.makesIn K C=true)(hi:PySem.W.findIn K ą "__init__"=Α Âc) (j:PySem.W.typeIn K Ć=Α (.type "function"))(h:codeAny Ë (A.under (.builtin "type.__call__" ⟨.ref C::vs,kw⟩)) (.call Ć ⟨.ref Î::vs,kw⟩) (PySem.W.InitBack Î R) {s with heap:=(s.o PySem.W.emptyDict).push ŀ}):
  codeAny Ë A (.call ą ⟨vs,kw⟩) R s:=by
 let(z,g,d,t,os):=s;exact PySem.W.make_core (PySem.W.makes_of X m) (PySem.W.looks_findIn X hi) (λself=>PySem.W.bind_fn X self j) ě h
end
def iu(f:Str)(v:V):List (Str×V)->List (Str×V)
 |[]=>[(f,v)]
 |(g,x)::r=>if g=f then (g,v)::r else (g,x)::iu f v r
theorem Jq(f g:Str)(v:V):∀fs:List (Str×V),(iu f v fs).Q g=if g=f then some v else fs.Q g:=by
 intro fs;induction fs with
 |nil=>
  show List.lookup g [(f,v)]=_;by_cases h:g=f
  .let j:(g==f)=true:=vK.mpr h;simp only[List.lookup,j,af h]
  .let j:(g==f)=false:=xD.mpr h;simp only[List.lookup,j,ag h]
 |cons m r z=>
  let(k,x):=m;let z:=z;rw[show iu f v ((k,x)::r)=(if k=f then (k,v)::r else (k,x)::iu f v r) from rfl];by_cases hk:k=f
  .rw[af hk];by_cases h:g=k
   .let j:(g==k)=true:=vK.mpr h;simp only[List.lookup,j,af (h.trans hk)]
   .let j:(g==k)=false:=xD.mpr h;simp only[List.lookup,j,ag (λe:g=f=>h (e.trans hk.symm))]
  .rw[ag hk];by_cases h:g=k
   .let j:(g==k)=true:=vK.mpr h;simp only[List.lookup,j,ag (λe:g=f=>hk (h.symm.trans e))]
   .let j:(g==k)=false:=xD.mpr h;simp only[List.lookup,j];exact z
theorem BM(f:Str)(v:V):∀fs:List (Str×V),f∈(iu f v fs).M (·.1)/\∀g,g∈fs.M (·.1)->g∈(iu f v fs).M (·.1):=by
 intro fs;induction fs with
 |nil=>exact(by simp[iu],λg h=>by simp at h)
 |cons j r F=>
  let(k,x):=j;let(m,z):=F;rw[show iu f v ((k,x)::r)=(if k=f then (k,v)::r else (k,x)::iu f v r) from rfl];by_cases hk:k=f
  .rw[af hk];subst hk;exact(by simp,λg h=>by simpa using h)
  .rw[ag hk];apply(?_,λg h=>?_)
   .rw[a8];exact aQ _ m
   .rw[a8] at h⊢;rcases aV.mp h with e|e
    .exact aV.mpr (.inl e)
    .exact aQ _ (z g e)
theorem Jr(f:Str)(v:V):∀fs:List (Str×V),(iu f v fs).L<=fs.L+1:=by
 intro fs;induction fs with
 |nil=>
  simp[iu]
 |cons j r m=>
  let(k,x):=j;let m:=m;rw[show iu f v ((k,x)::r)=(if k=f then (k,v)::r else (k,x)::iu f v r) from rfl];by_cases hk:k=f
  .rw[af hk,df,df];symm
  .rw[ag hk,df,df];symm
theorem j3.some_of(r:j3 Ãq o):∃u,o=Α u/\RelV v u:=by
 cases o with
 |none=>exact(show False from r).elim
 |some u=>exact(u,Á,r)
theorem abI(r:RelV v u):PySem.W.handedIn u=true:=by
 cases v with
 |aK=>cases (show u=Value.none from r);rfl
 |bl b=>cases (show u=Value.bool b from r);rfl
 |int i=>let(t,e):=(show ∃t,u=Value.int i t from r);cases e;rfl
 |str x=>let(t,e):=(show ∃t,u=Value.str x t from r);cases e;rfl
 |jr b=>let(t,e):=(show ∃t,u=Value.bytes b t from r);cases e;rfl
 |Bw b=>let(t,e):=(show ∃t,u=Value.float b t from r);cases e;rfl
 |ref a=>cases (show u=Value.ref a from r);rfl
 |ty n=>cases (show u=Value.type n from r);rfl
section
variable{P:Pg}{w:Wd}{H H':Hp}{h h':Heap}{a C dx:Addr}{fs zG:List (Str×V)}
def Rh(ax:Ħ h)(e:H a=Α Ϡ):∃mA,zE h a dx C mA/\(∀f,j3 Ái (mA f))/\PySem.Within mA (fs.M (·.1))/\fs.L<=1000/\H dx=Α (.own a):=by
 let(d,z,ne,O,mA,n,r,q):=(show fO P w H h a Ϡ from ax a _ e);exact(mA,⟨O,n,ne⟩,r,q,z,d)
end
structure lD(K:FR)(C:Addr):Prop where
 pg:PySem.W.plainGet K C Str.empty=true
 hd:PySem.W.hasDictIn K C=true
 po:PySem.W.plainOver K C=true
 sa:PySem.W.findIn K ą "__setattr__"=Α (some (.builtin "object.__setattr__"))
def lD.get{K:FR}{C:Addr}(c:lD K C)(f:Str):PySem.W.plainGet K C f=true:=c.pg
def gO(K:FR)(C:Addr)(f:Str):Prop:=PySem.W.findIn K ą f=Α none
def gO.abJ{K:FR}{C:Addr}{f:Str}(n:ϲ f):PySem.W.takerIn K C f=Α none:=by
 ext PySem.W.takerIn;rw[show PySem.W.findIn K ą f=Α none from n];rfl
section
variable{X:Cx}{pins:bJ}{σ:St}{H:Hp}{s:Sh}{a C dx:Addr}{fs:List (Str×V)}{f:Str}{v:V}{A:Around}{E:VP}
def abK{b:Bool}{Q:VP}(I:Ã H s)(e:H a=Α Ϡ)(c:lD X.K C)(n:gO X.K C f)(l:fs.Q f=Α v)(h:∀u s',Ã H s'->RelV v u->Q u s'):wpAny É A (getAttr ā f b) Q E s:=by
 let(mA,O,r,_,_,_):=Rh I.ax e;let(u,m,j):=j3.some_of (v:=v) (o:=mA f) (by grind);exact get_map I.fQ O (c.get f) c.hd n m (abI j) (h u _ (I.tok _) j)
def abL{y:V}{u:Value}{Q:Unit->Shared->Prop}(I:Ã H s)(e:H a=Α Ϡ)(c:lD X.K C)(n:gO X.K C f)(Z:fs.L<1000)(U:RelV y u)(h:∀s',Ã (Ů (.ins C dx (iu f y fs))) s'->Q () s'):wpAny É A (setAttr ā f u) Q E s:=by
 let(mA,O,r,W,_,m):=Rh I.ax e;let hz:(fs.M (·.1)).L<=sizeLine:=by rw[az,uF];lia
 apply abD I.fQ O c.sa c.po n.abJ c.hd W hz λh' j Y=>h _ ?_;let hd:∃o,h'.I dx=Α o:=let ⟨o,_,_,e',_⟩:=j.ns;⟨o,e'⟩;apply I.write (x:=a) (e:=dx) (by rw[e];exact True.intro) (.inr m) (λb q F z=>(Y.2 b F).R z) hd ?_;apply(by rw[ao O.ne];exact m,?_,O.ne,j.obj,_,j.ns,λg=>?_,λg J=>?_)
 .let:=Jr f y fs;lia
 .show j3 ((iu f y fs).Q g) (if g=f then some u else mA g);rw[Jq];by_cases q:g=f
  .rw[af q,af q];exact U
  .symm
 .by_cases q:g=f
  .rw[q];exact(BM f y fs).1
  .apply(BM f y fs).2 g (W g λz=>J ?_);symm
def Inv.made(I:Ã H s):Ã (upd (Ĕ (.own Î)) Î (.ins C s.Z [])) {s with heap:=(s.o PySem.W.emptyDict).push ŀ}:=by
 let j:(s.o PySem.W.emptyDict).I s.Z=Α PySem.W.emptyDict:=eY s.H rfl;let z:((s.o PySem.W.emptyDict).push ŀ).I Î=Α ŀ:=by
  let:=eY (s.o PySem.W.emptyDict) (o:=PySem.W.instObj C s.Z) rfl;symm
 let F:(s.o PySem.W.emptyDict).Ns s.Z (λ_=>none):=⟨PySem.W.emptyDict,#[],_,j,rfl,(λe J=>absurd J Ä),λ_=>rfl⟩;let m:=I.laid (a:=s.Z) (o:=.own Î) (h':=s.o PySem.W.emptyDict) (t':=s.toks) (λb u q=>cf _ q) (bw _) ⟨_,j⟩;apply m.laid (a:=s.Z+1) (o:=.ins C s.Z []) (t':=s.toks) (λb u q=>cf _ q) (Bf (mj _ _)) ?_;let ne:s.Z≠s.Z+1:=dX (D5 _);refine⟨by rw[ao ne,aq],du _,ne,z,λ_=>none,(Heap.Ns1.of_empty F).at λo q=>cf _ q,λ_=>True.intro,λy O=>absurd rfl O⟩
def abM(j:attributeBase e f env (eval e env)=eval e env)(h:wpAny Ë A (eval e env) (λo m=>wpAny Ë A (getAttr o f true) Q E m) E s):wpAny Ë A (eval (.Attribute e f pos) env) Q E s:=
 Attribute_any_ h (by rw[arm_eval_Attribute,j])
end
def f7(K:FR)(ta:TE)(f:Str):TE:=λσ H Q=>ta σ H λx H1=>∃a C dx fs v,x=.ref a/\H1 a=Α Ϡ/\lD K C/\ϲ f/\fs.Q f=Α v/\Q v H1
def EL(K:FR)(ta m:TE)(f:Str):TS:=λD σ H=>m σ H λy H1=>ta σ H1 λx j=>∃a C dx fs,x=.ref a/\j a=Α Ϡ/\lD K C/\ϲ f/\fs.L<1000/\
 D.nx σ (upd j a (.ins C dx (iu f y fs)))
def bg(J:ϥ ta)(F:attributeBase e f X.env ϛ=eval e X.env):PE X (.Attribute e f pos) (f7 X.K ta f):=by
 show Ö;apply abM F (aL (J pins s σ H _ I h) λu W ⟨x,H1,j,U,a,C,dx,fs,v,ex,z,c,n,l,q⟩=>?_);subst ex;obtain rfl:u=Value.ref a:=U;exact abK j z c n l λZ Y m O=>⟨v,H1,m,O,q⟩
def fg(J:PE X o ta)(O:PE X jn tv)(hs:swapsWith jn (some (.Attribute o f lS)) pos.line X.env=pure false):PS X (.Assign [.Attribute o f lS] jn pos) (EL X.K ta tv f):=by
 intro pins s σ H D I h;apply Zt (aL (O pins s σ H _ I h) λu s1 ⟨y,H1,j,Z,q⟩=>aL (J pins s1 σ H1 _ j q) λU s2 ⟨x,H2,m,Y,a,C,dx,fs,ex,F,c,n,l,W⟩=>?_) hs;subst ex;obtain rfl:U=Value.ref a:=Y;exact abL m F c n l Z λs3 z=>⟨σ,_,z,W⟩
def abN:R2:=gu λi j=>.int (i+j)
section
variable{X:Cx}{pins:bJ}{σ:St}{H:Hp}{s:Sh}{A:Around}{E:VP}{Q:VP}{c:Value}{b:Bool}
end
structure dJ(k:Nat)(A:Around):Prop where
 hd:A.handled=Β
 dp:A.depth+3*k+5<recursionLimit
 un:A.units+16*k+200<cLine
def dJ.mono(r:dJ k A)(h:j<=k):dJ j A:=⟨r.hd,by let:=r.dp;lia,by let:=r.un;lia⟩
def dJ.deeper(r:dJ (k+1) A)(env:Env):dJ k (A.deeper env):=
 ⟨r.hd,by let:=r.dp;show A.depth+1+3*k+5<_;lia,by let:=r.un;show A.units+3+16*k+200<_;lia⟩
def abO{A:Around}{C:Addr}{U:LV}{kw:List (Str×Value)}:(A.under (.builtin "type.__call__" ⟨.ref C::U,kw⟩)).depth=A.depth+1:=by
 rfl
def abP{A:Around}{C:Addr}{U:LV}{kw:List (Str×Value)}:(A.under (.builtin "type.__call__" ⟨.ref C::U,kw⟩)).units=A.units+1:=by
 rfl
def dJ.make(r:dJ (k+1) A)(C:Addr)(U:LV)(kw:List (Str×Value)):dJ k (A.under (.builtin "type.__call__" ⟨.ref C::U,kw⟩)):=
 ⟨r.hd,by let:=r.dp;rw[abO];lia,by let:=r.un;rw[abP];lia⟩
def dJ.depth(r:dJ k A):A.depth<recursionLimit:=by let:=r.dp;lia
def dJ.units(r:dJ k A):A.units+64<cLine:=by let:=r.un;lia
def dJ.abQ(r:dJ k A):A.units<cLine:=by let:=r.un;lia
def dQ:TA:=λ_ H Q=>Q [] H
def bo(ta:TE)(m:TA):TA:=λσ H Q=>ta σ H λx H1=>m σ H1 λxs j=>Q (x::xs) j
def ah:PA X [] dQ:=λ_ _ _ _ H Q I h=>P9 ⟨[],H,I,.nil,h⟩
def ae(F:ϥ te)(hr:PA X es t)(hs:starEach (e::es) X.env=(false,eval e X.env)::starEach es X.env:=by rfl):PA X (e::es) (bo te t):=by
 intro pos pins s σ H Q I h;rw[hs];show wpAny _ _ (spliced ((false,eval e X.env)::backTo pos ø)) _ _ s;apply D6 (aL (F pins s σ H _ I h) λu Y ⟨x,H1,m,U,J⟩=>?_);exact aL (hr pos pins Y σ H1 _ m J) λus Z ⟨xs,j,z,W,O⟩=>⟨x::xs,j,z,.cons U W,O⟩
def xU(t:TA):TE:=λσ H Q=>t σ H λxs H1=>xs.L<=sizeLine/\∀p,H1 p=Β->Q ĝ (upd H1 p Àn)
def zH(t:TA):TE:=λσ H Q=>t σ H λxs H1=>xs.L<=sizeLine/\∀p,H1 p=Β->Q ĝ (upd H1 p Ào)
def uQ{x1}(h:PA X es t):PE X (.Tuple es x1 pos) (xU t):=by
 intro pins s σ H Q I J;apply wpAny_Tuple_spliced (aL (h pos pins s σ H _ I J) λU j ⟨xs,H1,m,r,z,q⟩=>⟨by rw[<-r.L];exact z,?_⟩);let F:H1 j.Z=Β:=m.ax.fresh (bw _);apply(.ref j.Z,upd H1 j.Z Àn,m.laid (t':=j.toks) (λb u e=>cf _ e) (bw _) ?_,Á,q _ F);exact(z,U,r,⟨_,eY _ Á,Á,_,Á⟩)
def eG(h:PA X es t):PE X (.List es pos) (zH t):=by
 intro pins s σ H Q I J;apply wpAny_List_spliced (aL (h pos pins s σ H _ I J) λU j ⟨xs,H1,m,r,z,q⟩=>⟨by rw[<-r.L];exact z,?_⟩);let F:H1 j.Z=Β:=m.ax.fresh (bw _);apply(.ref j.Z,upd H1 j.Z Ào,m.laid (t':=j.toks) (λb u e=>cf _ e) (bw _) ?_,Á,q _ F);exact(z,U,0,r,eY _ Á)
abbrev Sp:=ay->Hp->VK->XK->Prop
abbrev nQ:=List Env->Hp->Shared->XK->VP
structure oX(P:Pg)(w:Wd)(K:FR)(mg:MG)(base:Heap)(A:Around)(outer:List Env)(s:Sh)(H:Hp):Prop where
 frames:A.frames=Α outer
 mod:Mod K mg base
 bs:∀b o,base.I b=Α o->s.U b=Α o/\H b=Β
 nM:base.O<=s.Z
 lu:s.H.FunFrames base outer
 p7:∀b∈nJ outer,H b=Β
 ax:Ħ s.H
 bare:AllBare s.gens
def CE(outer:List Env)(P:Pg)(w:Wd)(H:Hp)(s:Sh)(Q:VK)(u:Value)(s':Sh):Prop:=
 ∃v H',s'.os=s.os/\AllBare s'.gens/\Un (nJ outer) [] H H' s.H s'.H/\dY P w H' s'.H/\RelV v u/\Q v H'
def CR(CX:nQ)(outer:List Env)(P:Pg)(w:Wd)(H:Hp)(s:Sh)(Q:VK)(E:XK)(r:Result)(s':Sh):Prop:=
 match r with
 |.ok (.ret u)=>CE outer P w H s Q u s'
 |.ok _=>False
 |.error e=>CX outer H s E e s'
structure ba(P:Pg)(w:Wd)(K:FR)(mg:MG)(base:Heap)(CX:nQ)(k:Nat)(f:Addr)(fd:FD)(ps:LS)(sp:Sp):Prop where
 len:∀vs H Q E,sp vs H Q E->vs.L=ps.L
 run:∀(A:Around)(outer:List Env)(s:Sh)(H:Hp)(args:Args)(us:LV)(vs:ay)(Q:VK)(E:XK),dJ k A->Đ H->BindsTo s fd args Àq->a9 vs us->sp vs H Q E->
  codeAny Àr A (.call Ć args) (CR CX outer P w H s Q E) s
def oX.make{P:Pg}{w:Wd}{K:FR}{mg:MG}{base:Heap}{A:Around}{outer:List Env}{s:Sh}{H:Hp}(e:Đ H)(C:Addr)(U:LV)(kw:List (Str×Value)):
  oX P w K mg base (A.under (.builtin "type.__call__" ⟨.ref C::U,kw⟩)) outer s H:=⟨by first|exact e.frames|(simpa [Around.under,Code.envs,Code.isFrame,pushEnvs] using e.frames),e.mod,e.bs,e.nM,e.lu,e.p7,e.ax,e.bare⟩
section
variable{X:Cx}{pins:bJ}{σ:St}{H:Hp}{s s':Sh}
def Inv.zI(I:Ã H s):oX X.prog X.w X.K X.mg X.base X.A X.stack s H:=
 ⟨I.ok.frames,I.ok.mod,I.bs,gS I.ok.nM I.sz,I.stack,I.Eu,I.ax,I.bare⟩
def Inv.after(I:Ã H s)(h:CE X.stack X.prog X.w H s Q u s'):ô Q u s':=by
 let(v,H',os,bare,un,ax,r,q):=h;let(j,g,d,t,J):=s';obtain rfl:J=s.os:=os;exact(v,H',I.call (h':=j) (g':=g) (d':=d) (t':=t) (ch:=[]) un ax bare ļ,r,q)
end
def ic(sp:Sp)(j:ay)(E:XK)(t:TA):TE:=λσ H Q=>t σ H λvs H1=>sp (vs++j) H1 Q E
def Ri(C:Addr)(sp:Sp)(m:ay)(E:XK)(t:TA):TE:=λσ H Q=>t σ H λvs H1=>∀x dx,H1 x=Β->H1 dx=Β->dx≠x->
 sp (.ref x::(vs++m)) (upd (upd H1 dx Åg) x Âl) (λv j=>v=.aK/\Q Ŧ j) E
def Binds(K:FR)(fd:FD)(ps:LS)(j:LV):Prop:=
 ∀(s:Sh)(U:LV),K.In s.H->(U++j).L=ps.L->BindsTo s fd ⟨U,[]⟩ (ps.zip (U++j))
def Binds.all{K:FR}{fd:FD}{ps:LS}(h:∀us:LV,us.L=ps.L->bindArgs fd ⟨us,[]⟩=pure Àq):Binds K fd ps []:=λs us _ j=>by
 rw[jG] at j⊢;exact .of_eq (h us j)
def uR(CX:nQ)(X:Cx)(E:XK):Prop:=∀(pins:bJ)(σ:St)(H:Hp)(s:Sh)(e:Value)(s':Sh),Ã H s->CX X.stack H s E e s'->X.xe e s'
def abR(F:ü CX k f fd ps sp)(hr:dJ k X.A)(z:ņ ds)(hd:a9 i7 ds)(O:uR CX X E)(I:Ã H s) (r:a9 vs us) (h:sp (vs++i7) H Q E):wpAny É X.A (call Ć us) (ô Q) X.xe s:=by
 let m:a9 (vs++i7) (us++ds):=r.append hd;let J:(us++ds).L=ps.L:=by rw[<-m.L];exact F.len _ _ _ _ h
 apply zh (qR (F.run X.A X.stack s H ⟨us,[]⟩ (us++ds) (vs++i7) Q E hr I.zI (z s us I.fQ J) m h) λr s' j=>?_);cases r with
 |error e=>exact O pins σ H s e s' I j
 |ok fl=>
  cases fl with
  |ret u=>exact I.after j
  |next=>exact False.elim j
  |brk=>exact False.elim j
  |cont=>exact False.elim j
def mG(F:ü CX k f fd ps sp)(hr:dJ k X.A)(O:Gl X x)(U:X.mg x=Α Ć)(hk:PySem.W.keepIn X.K Ć=true)(z:ņ ds)(hd:a9 i7 ds)(Y:uR CX X E)(m:PA X (e::es) t) (Z:(x==("__debug__":Str))=false:=by decide) (J:starEach (e::es) X.env=(false,eval e X.env)::starEach es X.env:=by rfl) (j:(backTo pos ø).any (·.1)=false:=by rfl):
  PE X (.Call ϑ (e::es) [] pos) (ic sp i7 E t):=by
 show Ö;apply xE (vT I O U ?_ Z);refine PySem.W.callWith_K (h₀:=X.base) I.ok.mod.sM hk (aL (m pos pins s σ H _ I h) λus s1 ⟨vs,H1,I1,r,q⟩=>Áx) J j;exact abR F hr z hd Y I1 r q
structure Mk(K:FR)(C f:Addr):Prop where
 makes:PySem.W.makesIn K C=true
 init:PySem.W.findIn K ą "__init__"=Α Âc
 fn:PySem.W.isFn K Ć=true
 kp:PySem.W.keepIn K ą=true
def abS{pins:bJ}{σ:St}{H:Hp}{s:Sh}{Q:VK}{U:LV}{vs:ay}(M:Mk X.K C f)(F:ü CX k f fd ps sp)(hr:dJ (k+1) X.A)(Z:ņ ds)(hd:a9 i7 ds)(hx:uR CX X E) (I:Ã H s) (r:a9 vs U)(h:∀x dx,H x=Β->H dx=Β->dx≠x->sp (.ref x::(vs++i7)) (upd (upd H dx Åg) x Âl) (λv O=>v=.aK/\Q Ŧ O) E):
  wpAny É X.A (call ą U) (ô Q) X.xe s:=by
 let z:=h Î s.Z (I.ax.fresh (Bj _)) ğ (dX (D5 _));let m:=Inv.made (C:=C) I;let J:a9 (V.ref Î::(vs++i7)) (Value.ref Î::(U++ds)):=.cons rfl (r.append hd);let hl:(Value.ref Î::U++ds).L=ps.L:=by
  let e:=J.L;rw[F.len _ _ _ _ z] at e;symm
 refine zh (abH (f:=f) I.fQ M.makes M.init (vK.mp M.fn) (qR (F.run _ X.stack _ _ ⟨Value.ref Î::U,[]⟩ (Value.ref Î::(U++ds)) _ _ E (hr.make C U [])
  (m.zI.make C U []) (Z _ (Value.ref Î::U) m.fQ hl) J z) λr s' j=>?_))
 cases r with
 |error e=>exact hx pins σ _ _ e s' m j
 |ok fl=>
  cases fl with
  |ret u=>
   let(v,H',W,rv,Y,q3):=m.after j;subst Y;exact(rv,⟨V.ref Î,H',W,Á,q3⟩)
  |next=>exact False.elim j
  |brk=>exact False.elim j
  |cont=>exact False.elim j
def abT(M:Mk X.K C f)(F:ü CX k f fd ps sp)(hr:dJ (k+1) X.A)(O:Gl X x)(U:X.mg x=Α ą)(z:ņ ds)(hd:a9 i7 ds)(Y:uR CX X E)(m:PA X (e::es) t) (Z:(x==("__debug__":Str))=false:=by decide) (J:starEach (e::es) X.env=(false,eval e X.env)::starEach es X.env:=by rfl) (j:(backTo pos ø).any (·.1)=false:=by rfl):
  PE X (.Call ϑ (e::es) [] pos) (Ri C sp i7 E t):=by
 show Ö;apply xE (vT I O U ?_ Z);refine PySem.W.callWith_K (h₀:=X.base) I.ok.mod.sM M.kp (aL (m pos pins s σ H _ I h) λus s1 ⟨vs,H1,I1,r,q⟩=>Áx) J j;exact abS M F hr z hd Y I1 r q
structure bQ(N P:LS)(sc:Scope):Prop where
 kind:sc.kind=.function
 co:sc.isCoroutine=false
 gen:sc.isGenerator=false
 nd:N.Nodup
 pre:N.take P.L=P
 par:∀x∈P,sc.names.Q x=Α .local\/sc.names.Q x=Α .cell
 abU:∀y∈sc.names,y.2≠ .free
theorem abV{kindOf:Str->Option NameKind}{x:Str}{binds:List (Str×Value)}:∀{m:MG},(∀v,(x,v)∉binds)->bindL kindOf binds m x=m x:=by
 induction binds with
 |nil=>exact @λ_ _=>Á
 |cons j r F=>
  let(n,v):=j;intro m h;ext bindL;rw[F λw z=>h w (aQ _ z)];split
  .let:x≠n:=by rintro rfl;exact h v gn
   simp[this]
  .rfl
theorem abW{kindOf:Str->Option NameKind}{x:Str}{binds:List (Str×Value)}:∀{m:MG},(∀v,(x,v)∉binds)->bindC kindOf binds m x=m x:=by
 induction binds with
 |nil=>exact @λ_ _=>Á
 |cons j r F=>
  let(n,v):=j;intro m h;ext bindC;rw[F λw z=>h w (aQ _ z)];split
  .rfl
  .let:x≠n:=by rintro rfl;exact h v gn
   simp[this]
def abX{kindOf:Str->Option NameKind}{x:Str}{v:Value}{P:LS}:∀{vs:LV}{i:Nat}{m:MG},P.Nodup->P[i]? =Α x->vs[i]? =Α v->kindOf x=Α .local->
  bindL kindOf (P.zip vs) m x=Α v:=by
 induction P with
 |nil=>intro _ _ _ _ h;simp at h
 |cons p P F=>
  intro vs i m nd j h2 hk;cases vs with
  |nil=>simp at h2
  |cons w vs=>
   show bindL kindOf ((p,w)::P.zip vs) m x=_;ext bindL;cases i with
   |zero=>
    simp at j h2;subst j;subst h2;rw[abV λv z=>(jZ.mp nd).1 (D7 z).1,af hk];simp
   |succ i=>exact F (jZ.mp nd).2 j h2 hk
def abY{kindOf:Str->Option NameKind}{x:Str}{v:Value}{P:LS}:∀{vs:LV}{i:Nat}{m:MG},P.Nodup->P[i]? =Α x->vs[i]? =Α v->kindOf x≠some .local->
  bindC kindOf (P.zip vs) m x=Α v:=by
 induction P with
 |nil=>intro _ _ _ _ h;simp at h
 |cons p P F=>
  intro vs i m nd j h2 hk;cases vs with
  |nil=>simp at h2
  |cons w vs=>
   show bindC kindOf ((p,w)::P.zip vs) m x=_;ext bindC;cases i with
   |zero=>
    simp at j h2;subst j;subst h2;rw[abW λv z=>(jZ.mp nd).1 (D7 z).1,ag hk];simp
   |succ i=>exact F (jZ.mp nd).2 j h2 hk
def start(N:LS)(vs:ay):St:=vs.M some++List.replicate (N.L-vs.L) none
def lY(CX:nQ)(P:Pg)(w:Wd)(K:FR)(mg:MG)(base:Heap)(N:LS)(cY:Str)(scope:Scope)(f:Addr)(cd:Value)(A:Around)(outer:List Env)(s:Sh)(H:Hp)(E:XK):Cx where
 prog:=P
 w:=w
 K:=K
 mg:=mg
 base:=base
 A:=A.deeper ſ
 N:=N
 ib:=s
 rh:=H
 env:=envOfC cY scope s.Z f cd
 outer:=outer
 stack:=envOfC cY scope s.Z f cd::outer
 ex:=[]
 calm:=true
 fn:=λ_=>true
 pn:=[]
 xe:=λe s'=>wpAny Àr (A.deeper ſ) (leaving ſ e) (λ_ j=>CX outer H s E e j) (λm j=>CX outer H s E m j) s'
def Rj{j:Scope}{n:Nat}{x:Str}(h:j.names.Q x=Α .cell):∃c,(cellsFrom n j.names []).Q x=Α c:=by
 let q:=PySem.W.cellsFrom_some j.names n [] (.inl h);exact Ij.mp q
def Rk{CX:nQ}{P:Pg}{w:Wd}{K:FR}{mg:MG}{base:Heap}{N ps:LS}{cY:Str}{scope:Scope}{f:Addr}{cd:Value}{A:Around}{outer:List Env}{s W:Sh}{H:Hp}{E:XK}{us:LV}{vs:ay}(S:bQ N ps scope) (hd:A.handled=Β) (j:Đ H) (hl:vs.L=ps.L) (r:a9 vs us)(x:InCallC s s.Z (bindL (envOfC cY scope s.Z f cd).kindOf Àq λ_=>none) (cellsFrom Î scope.names []) (bindC (envOfC cY scope s.Z f cd).kindOf Àq λ_=>none) W):
  Inv (ı scope f cd A outer s H E) [] Ż H W:=by
 let dg:ps.L<=N.L:=by let:=cw List.length S.pre;rw[nB] at this;lia
 let(F,tk,rfl,hk):=x.done;let U:∀b:Addr,b∉(ı scope f cd A outer s H E).ex:=λb z=>absurd (show b∈([]:LA) from z) Ä;apply⟨⟨j.mod,S.kind,Á,Á,bw _,λy z c F h2=>?_,λy hy=>?_,λy c _ h=>?_,λ_=>hd,Around.frames_deeper j.frames,.inr ⟨Á,Á⟩,λb z=>absurd z (U b),j.bs,j.nM,λb _ _=>U b,λb z=>absurd z (U b),j.lu,j.p7⟩,
  rfl,j.bare,Un.kept hk,⟨_,x.toInCall.ns,λi y v F h2 h3=>?_⟩,λy c h=>⟨_,x.cell y c h⟩,j.ax.fresh (bw _),λy c h=>?_,λp m=>absurd (show p∈([]:bJ) from m) Ä,j.ax.kept hk,?_⟩
 .exact name_of_addr x.apart (PySem.mem_of_lookup F) (PySem.mem_of_lookup h2)
 .let hy:scope.names.Q y=Α .cell\/scope.names.Q y=Α .free:=hy;rcases hy with hy|hy
  .exact Rj hy
  .exact absurd Á (S.abU _ Âh)
 .exact qU (x.above y c (PySem.mem_of_lookup h))
 .let hi:i<vs.L:=by
   delta start at h2;by_cases hi:i<vs.L
   .exact hi
   .rw[Qa (À hi)] at h2;rw[List.getElem?_replicate] at h2;split at h2 <;> cases h2
  let Y:vs[i]? =Α v:=by
   delta start at h2;rw[Ik (À hi),bU] at h2;cases e:vs[i]? with
   |none=>rw[e] at h2;cases h2
   |some a=>rw[e] at h2;cases h2;rfl
  let(u,O,Z):=r.get Y;let m:ps[i]? =Α y:=by
   rw[<-S.pre,Zu Å];exact F
  let J:ps.Nodup:=by rw[<-S.pre];exact S.nd.sublist (List.take_sublist _ _)
  apply(u,Z,?_);rcases S.par y (bY m) with k|k
  .exact .inl ⟨k,abX J m O k⟩
  .let(c,e):=Rj (n:=s.Z+1) k;apply .inr ⟨.inl k,c,e,?_⟩;let q:=x.cell y c e;rw[abY J m O (by show scope.names.Q y≠_;rw[k];decide)] at q;exact q
 .exact j.ax.fresh (qU (x.above y c (PySem.mem_of_lookup h)))
 .ext start;show _=N.L;rw[mq,az,List.length_replicate];symm
def Rm{CX:nQ}{P:Pg}{w:Wd}{K:FR}{mg:MG}{base:Heap}{k:Nat}{f:Addr}{name cY:Str}{Y:Arguments}{m:List Stmt}{scope:Scope}{U kV Z pm aI ct oc:Value}{O od:OA}{nG:AO} {N ps:LS} {sp:Sp} (lk:K.Q f=Α ⟨oc,od,.func (PySem.W.fnOf name cY Y m scope U kV Z pm O aI ct),nG⟩) (ly:PySem.W.codeIn K aI cY=true) (S:bQ N ps scope)(len:∀vs H Q E,sp vs H Q E->vs.L=ps.L)(uT:∀(A:Around)(outer:List Env)(s:Sh)(H:Hp)(vs:ay)(Q:VK)(E:XK),dJ k (A.deeper (envOfC cY scope s.Z f aI))->sp vs H Q E->
   ∃t,lx Àk m t/\t {nx:=λ_ H'=>Q .aK H',rt:=Q} Ż H):
  ba P w K mg base CX (k+1) f (PySem.W.fnOf name cY Y m scope U kV Z pm O aI ct) ps sp:=by
 apply(len,λA outer s H args us vs Q E hr j hb r i9=>?_);let hl:=len _ _ _ _ i9;let F:K.In s.H:=j.mod.sM.keeps λb o e=>(j.bs b o e).1;let DY:s.H.NoLimit:=j.mod.nolimit.keeps λb o e=>(j.bs b o e).1;let Jt:∀y∈ps.zip us,scope.names.Q y.1=Α .local\/(scope.names.Q y.1=Α .cell/\((cellsFrom Î scope.names []).Q y.1).isSome=true):=λ⟨n,v⟩ hy=>by
  rcases S.par n (D7 hy).1 with q|q
  .symm
  .exact .inr ⟨q,PySem.W.cellsFrom_some _ _ _ (.inl q)⟩
 apply codeAny_call_function hr.depth (F _ _ lk) Á S.co S.gen Á (PySem.W.codeRec_of F ly) (hb _ _ _ _ ?_);apply arz S.kind Jt λenv he s1 x=>?_;subst he;apply(DY.keeps x.toInCall.keep,codeAny_func ?_);let(t,ht,hq):=uT A outer s H vs Q E (hr.deeper _) i9;let I:Inv Àk [] Ż H s1:=Rk S hr.hd j hl r x;apply iU (ht [] s1 Ż H _ I hq) (λfl s' hs=>?_) λe s' hs=>hs;let fin:∀{σ':St}{H':Hp}{v:V}{u:Value},Inv Àk [] σ' H' s'->RelV v u->Q v H'->CE outer P w H s Q u s':=
  λ{σ' H' v u}J z q=>⟨v,H',J.os,J.bare,J.base,J.ax,z,q⟩
 cases fl with
 |ret u=>
  let(v,σ',H',J,z,q):=hs;exact fin J z q
 |next=>
  let(σ',H',J,q):=hs;exact fin (v:=V.aK) (u:=Value.none) J Á q
 |brk=>
  let(_,_,_,q):=hs;symm
 |cont=>
  let(_,_,_,q):=hs;symm
section
variable{X:Cx}{x:Str}{p pos:Pos}{e:Expr}{es:List Expr}{t:TA}{id T:String}{r:ay->Hp->VK->Prop}
def rq(r:ay->Hp->VK->Prop)(t:TA):TE:=λσ H Q=>t σ H λvs H1=>r vs H1 Q
def dc(hc:j5 X ϖ r)(hg:Gl X x)(hm:X.mg x=Β)(O:bootBuiltins x=Α ϖ)(z:PA X (e::es) t)(J:x≠"__name__":=by decide)(U:(x==("__debug__":Str))=false:=by decide)(F:starEach (e::es) X.env=(false,eval e X.env)::starEach es X.env:=by rfl) (m:(backTo pos ø).any (·.1)=false:=by rfl):PE X (.Call ϑ (e::es) [] pos) (rq r t):=by
 show Ö;apply xE (Àp O ?_ J U);exact arA (aL (z pos pins s σ H _ I h) λus Z ⟨vs,H1,j,Y,W⟩=>hc pins Z σ H1 vs us Q j Y W) F m
def wb(hc:j5 X (.type T) r)(hg:Gl X x)(hm:X.mg x=Β)(O:bootBuiltins x=Α (.type T))(z:PA X (e::es) t)(J:x≠"__name__":=by decide)(U:(x==("__debug__":Str))=false:=by decide)(F:starEach (e::es) X.env=(false,eval e X.env)::starEach es X.env:=by rfl) (m:(backTo pos ø).any (·.1)=false:=by rfl):PE X (.Call ϑ (e::es) [] pos) (rq r t):=by
 show Ö;apply xE (Àp O ?_ J U);exact D4 (aL (z pos pins s σ H _ I h) λus Z ⟨vs,H1,j,Y,W⟩=>hc pins Z σ H1 vs us Q j Y W) F m
end
end L2
namespace HT
open PySem PyProof.Rows
def lexLt:LI->LI->Bool
 |[],[]=>false
 |[],_::_=>true
 |_::_,[]=>false
 |x::xs,y::ys=>if x=y then lexLt xs ys else decide (x<y)
def uU(x y:Int)(xs ys:LI):lexLt (x::xs) (y::ys)=if x=y then lexLt xs ys else decide (x<y):=rfl
def Rn:lexLt [] []=false:=rfl
def Ro(y:Int)(ys:LI):lexLt [] (y::ys)=true:=rfl
def Rp(x:Int)(xs:LI):lexLt (x::xs) []=false:=rfl
def Rq(A:Around)(s:Sh)(a:Int)(t:Tok)(c:Int)(u:Tok):∃e,SeqAt.EqAt A s (.int a t) (.int c u) e/\(e=true↔a=c):=
 ⟨(a==c),SeqAt.EqAt.int_int a t c u,by simp⟩
def Ju(A:Around)(s:Sh)(a:Int)(t:Tok)(c:Int)(u:Tok)(prog:Pg)(w:Wd)(E:VP)(Q:VP)(h:Q (.bool (decide (a<c))) s):
  wpAny Ë A (richCompare .Lt (.int a t) (.int c u)) Q E s:=
 (PyProof.Rows.lt_int h:wpAny Ë A (compareOp .Lt (.int a t) (.int c u)) Q E s)
section
open PySem.SeqAt
open PySem.AutoSeq1 (wpAny_loadPart')
open PySem.MeetsSeq PySem.MeetsSeq2 PySem.MeetsSeq3
def abZ(l b:Addr)(items j:Array Value)(n n2:Nat)(dd mJ:OA)(sl nR:AO)(ns ms:LI)(hi:IntsAre items.toList ns)(hj:IntsAre j.toList ms):
  Meets (Builtin.«tuple.__lt__» ⟨[.ref l,.ref b],[]⟩)
   (λ_ R s=>s.U l=Α {cls:=.type "tuple",dict:=dd,data:=.seq items n,slots:=sl}/\s.U b=Α {cls:=.type "tuple",dict:=mJ,data:=.seq j n2,slots:=nR}/\
    R (.ok (.ret ϐ)) s):=
 .of_wp λprog w A R s h=>by
  let(U,g,d,tk,os):=s;let(hl,hb,h):=h;let f2:=arC;let z1:items.u=ns.L:=by rw[<-hi.L];simp
  let z2:j.u=ms.L:=by rw[<-hj.L];simp
  wp_walk using jo hl,jo hb,wpAny_forIn_list _ (λbT b s'=>b.1=Β/\s'=⟨U,g,d,tk,os⟩/\∃(vs Y:LV)(z m:LI),bT=vs.zip Y/\
   IntsAre vs z/\IntsAre Y m/\z.L+j.u=m.L+items.u/\R (.ok (.ret (.bool (lexLt z m)))) ⟨U,g,d,tk,os⟩) _
  case turn=>
   rintro⟨y,x⟩ bT b s' ⟨Z,rfl,vs,Y,z,m,hz,zJ,W,F,hR⟩;cases zJ with
   |nil=>rw[List.zip_nil_left] at hz;cases hz
   |cons a t J=>
    cases W with
    |nil=>rw[List.zip_nil_right] at hz;cases hz
    |cons c u O=>
     rw[Ea] at hz;injection hz with hyx hrest;injection hyx with hy hx;subst hy hx;rw[uU] at hR;simp only[df] at F;let(e,he,BN):=Rq A.in1 ⟨U,g,d,tk,os⟩ a t c u;apply au (he prog w _ _ ?_);cases e with
     |true=>
      rw[af (BN.mp rfl)] at hR
      wp_walk
      exact(Á,Á,_,_,_,_,hrest,J,O,by lia,hR)
     |false=>
      rw[ag (λq=>absurd (BN.mpr q) d8)] at hR;let rB:=Ju A.in1 ⟨U,g,d,tk,os⟩ a t c u prog w
      wp_walk using rB
      exact(_,Á,À hR)
  case fin=>
   rintro⟨b1,b2⟩ s' ⟨Z,rfl,vs,Y,z,m,hz,zJ,W,F,hR⟩;simp only at Z;subst Z;let hv:lexLt z m=decide (items.u<j.u):=by
    cases zJ with
    |nil=>
     cases W with
     |nil=>
      simp only[sy] at F;rw[Rn];exact(fZ á).symm
     |cons c u hw=>
      simp only[sy,df] at F;rw[Ro];exact(eN á).symm
    |cons a t hv=>
     cases W with
     |nil=>
      simp only[sy,df] at F;rw[Rp];exact(fZ á).symm
     |cons c u hw=>
      rw[Ea] at hz;cases hz
   rw[hv] at hR
   wp_walk
   exact(_,Á,by simpa [Builtin.Tuple.tupleCompareSizes] using hR)
  case h=>
   exact(Á,Á,items.toList,j.toList,ns,ms,Á,hi,hj,by omega,h)
end
def ab0(W:IsTup s.H l items)(O:IsTup s.H b iE)(hi:IntsAre items.toList ns)(U:IntsAre iE.toList ms)(Y:A.units<cLine) (h:Q ϐ s):wpAny Ë A (compareOp .Lt Ãc (.ref b)) Q E s:=by
 let((cls,dd,data,sl),z,hc,n,hd):=id W;let((Rr,Z,data2,nR),j,J,n2,m):=id O;simp only at hc hd J m;subst hc hd J m;exact Qb (op:=.Lt) ⟨_,z,Á⟩ ⟨_,j,Á⟩ PySem.F.slot_tuple_lt PySem.F.entry_tuple_lt (PySem.F.args_tuple_lt_2 _ _) (abZ l b items iE n n2 dd Z sl nR ns ms hi U)
  ⟨z,j,show Value.bool (lexLt ns ms)≠Value.notImplemented/\Q ϐ s from⟨(λx=>nomatch x),h⟩⟩ Y
def mO(n d:Nat):Option Int->Nat
 |none=>d
 |some v=>if v<0 then (v+(n:Int)).toNat else min v.toNat n
def Rt(n d:Nat):mO n d none=d:=rfl
def Ru(n d k:Nat):mO n d (some (k:Int))=min k n:=by
 rfl
end HT
namespace L2
open PySem PySem.Spec PyProof.Rows
abbrev TO:=St->Hp->(Option Int->Hp->Prop)->Prop
def PO(X:Cx)(e:Option Expr)(t:TO):Prop:=
 ∀(pins:bJ)(s:Sh)(σ:St)(H:Hp)(Q:Option Int->Hp->Prop),Ã H s->t σ H Q->
  wpAny É X.A (evalPart e X.env) (λu s'=>∃o H',Ã H' s'/\IsPart u o/\Q o H') X.xe s
def Rv:TO:=λ_ H Q=>Q none H
def Rw(t:TE):TO:=λσ H Q=>t σ H λx H1=>∃i,x=.int i/\Q (some i) H1
theorem intsAre_of{ns:LI}:∀{U:LV},a9 Ŀ U->IntsAre U ns:=by
 induction ns with
 |nil=>intro U r;rw[mr] at r;cases r;exact .nil
 |cons n ns j=>
  intro U r;rw[a8] at r;cases r with
  |cons m z=>
   let(t,e):=m;subst e;exact .cons n t (j z)
section
variable{X:Cx}{e:Expr}{te:TE}{lo hi:Option Expr}{tl th:TO}{pos p2:Pos}
def xW:PO X none Rv:=by
 show Ö;rw[evalPart_none];exact aP ⟨none,H,I,.none,h⟩
def xX(h:ϥ te):PO X (some e) (Rw te):=by
 intro pins s σ H Q I m;rw[evalPart_some];apply aL (h pins s σ H _ I m) λu J ⟨x,H1,j,F,z⟩=>?_;let(i,rfl,q):=z;let(t,rfl):=F;exact(some i,H1,j,.int i t,q)
def Rx(X:Cx)(r:V->Option Int->Option Int->Hp->VK->Prop):Prop:=
 ∀(pins:bJ)(s:Sh)(σ:St)(H:Hp)(x:V)(v j m:Value)(lo hi:Option Int)(sl:Addr)(Q:VK),Ã H s->RelV x v->s.H.IsSliceOf sl j m .none->IsPart j lo->IsPart m hi->r x lo hi H Q->
  ∃T id,typeLookup (.type T) "__getitem__"=pure (some ϖ)/\s.TypeIs v T/\wpAny É X.A (getItem v (.ref sl)) (ô Q) X.xe s
def Ry(r:V->Option Int->Option Int->Hp->VK->Prop)(te:TE)(tl th:TO):TE:=λσ H Q=>te σ H λx H1=>tl σ H1 λl j=>th σ j λu m=>r x l u m Q
def xY(hr:Rx X r)(he:ϥ te)(hl:PO X lo tl)(hu:PO X hi th):PE X (.Subscript e (.Slice lo hi none p2) pos) (Ry r te tl th):=by
 show Ö;apply Subscript_ (aL (he pins s σ H _ I h) λv s1 ⟨x,H1,O,r1,q1⟩=>?_);apply wpAny_Slice (aL (hl pins s1 σ H1 _ O q1) λm s2 ⟨l,J,U,pl,q2⟩=>aL (hu pins s2 σ J _ U q2) λz j ⟨u,F,W,pu,q3⟩=>?_);rw[evalPart_none];apply aP ?_;let Y:Ã F {j with heap:=j.o {cls:=.type "slice",data:=.fields #[m,z,.none]}}:=W.kept (t':=j.toks) λb ob q=>cf _ q;let(T,id,Z,ht,hg):=hr pins {j with heap:=j.o {cls:=.type "slice",data:=.fields #[m,z,.none]}} σ F x v m z l u j.Z Q Y r1 (Heap.IsSliceOf.new ..) pl pu q3;show wpAny É X.A (subscriptTail e (.Slice lo hi none p2) v (.ref j.Z)) (ô Q) X.xe {j with heap:=j.o {cls:=.type "slice",data:=.fields #[m,z,.none]}};exact tail_any (ops:=[.ref j.Z,v]) ht Z hg Ò
def oY(xs:ay)(lo hi:Option Int):ay:=(xs.drop (HT.mO xs.L 0 lo)).take (HT.mO xs.L xs.L hi-HT.mO xs.L 0 lo)
def ab1(xs:ay)(lo hi:Option Int):(oY xs lo hi).L<=xs.L:=by
 ext oY;rw[nB,Zw];lia
inductive Rz(K:FR)(x:V)(y:V)(H:Hp)(Q:VK):Prop
 |mk (a b ns ms:_) (_:x=.ref a) (_:y=.ref b) (_:ŭ a Ŀ) (_:ŭ b Än) (_:Q (.bl Ϥ) H)
def ab2(F:X.A.units<cLine):eU X Çs (Rz X.K):=by
 show ò;let(a,b,ns,ms,rfl,rfl,m,z,q):=h;cases rx;cases ry;let(j,Y,W,_):=I.tuple m;let(U,Z,p2,_):=I.tuple z;let J:IntsAre j.toArray.toList ns:=intsAre_of Y;let O:IntsAre U.toArray.toList ms:=intsAre_of Z;exact HT.ab0 W p2 J O F ⟨.bl Ϥ,H,I,Á,q⟩
end
def sU(n:Nat)(i:Int):Option Nat:=if 0<=i then (if i<n then some i.toNat else none) else if-(n:Int)<=i then some (i+n).toNat else none
def qg{α:Type}(xs:List α)(i:Int):Option α:=(sU xs.L i).bind λj=>xs[j]?
def ab3(h:sU n i=Α j):seqIndex? i n=Α j/\j<n/\ -(n:Int)<=i/\i<n:=by
 delta sU at h;by_cases z:0<=i
 .rw[af z] at h;by_cases m:i<n
  .rw[af m] at h;let e:i.toNat=j:=aO h;exact(by rw[seqIndex_of z m,e],by lia,by lia,m)
  .symm
 .rw[ag z] at h;by_cases m: -(n:Int)<=i
  .rw[af m] at h;let e:(i+n).toNat=j:=aO h;exact(by rw[seqIndex_neg Å m,e],by lia,m,by lia)
  .symm
theorem RA(h:qg xs i=Α v):∃j,seqIndex? i xs.L=Α j/\xs[j]? =Α v/\j<xs.L/\ -(xs.L:Int)<=i/\i<xs.L:=by
 delta qg at h;cases e:sU xs.L i with
 |none=>symm
 |some j=>
  rw[e] at h;let(m,h2,z,F):=ab3 e;symm
def gc{α:Type}{xs:List α}{j:Nat}{v:α}(h:xs[j]? =Α v):qg xs (j:Int)=Α v:=by
 let m:j<xs.L:=(bO.mp h).1;let e:sU xs.L (j:Int)=Α j:=by
  ext sU;symm
 ext qg;rw[e];exact h
def wc(xs:List α)(v:α):qg (xs++[v]) (-1)=Α v:=by
 let j:(xs++[v]).L=xs.L+1:=by simp
 let e:sU (xs++[v]).L (-1)=Α xs.L:=by
  ext sU;grind
 ext qg;symm
def ab4(b:Expr):Prop:=∀o i,subscripted b false o i=operate [o,i] (getItem o i)
def Jv(X:Cx)(r:R2):Prop:=
 ∀(J j:Expr)(pins:bJ)(s:Sh)(σ:St)(H:Hp)(x y:V)(v u:Value)(Q:VK),Ã H s->RelV x v->RelV y u->r x y H Q->
  subscripted j false v u=operate [v,u] (getItem v u)->wpAny É X.A (subscriptTail J j v u) (ô Q) X.xe s
def Jw(X:Cx)(id:String)(r:V->ay->Hp->VK->Prop):Prop:=
 ∀(pins:bJ)(s:Sh)(σ:St)(H:Hp)(x:V)(xs:ay)(v:Value)(U:LV)(Q:VK),Ã H s->RelV x v->a9 xs U->r x xs H Q->
  wpAny É X.A (call ϖ (v::U)) (ô Q) X.xe s
section
variable{X:Cx}{a b:Expr}{ta tb:TE}{pos:Pos}
def cQ(hr:Jv X r)(z:PE X a ta)(F:PE X b tb)(hs:ab4 b):PE X (.Subscript a b pos) Çd:=by
 show Ö;exact Subscript_ (Ji z F I h λv u U x y j m J O q=>hr a b pins U σ j x y v u Q m J O q (hs _ _))
inductive ie(K:FR)(x:V)(y:V)(H:Hp)(Q:VK):Prop
 |mk (p xs i v:_) (_:x=.ref p) (_:y=.int i) (_:ã p xs) (_:qg xs i=Α v) (_:Q v H)
inductive ab5(K:FR)(x:V)(y:V)(H:Hp)(Q:VK):Prop
 |mk (p xs i v:_) (_:x=.ref p) (_:y=.int i) (_:ŭ p xs) (_:qg xs i=Α v) (_:Q v H)
def c8:Jv X (ie X.K):=by
 intro jn vF pins s σ H x y v u Q I rx ry h hs;let(p,xs,i,z,rfl,rfl,hq,Z,q):=h;cases rx;let(t,rfl):=ry;let(O,r,pl,hz):=I.list hq;let(j,F,h2,h3,W,Y):=RA Z;let(w,U,jb):=r.get h2;let hl:=r.L;let hn:=EK;let fin:ô Q w s:=⟨z,H,I,jb,q⟩;by_cases m:0<=i
 .let J:i.toNat=j:=by
   rw[seqIndex_of m Y] at F;symm
  exact item_listR pl.isList m Ô Å fin hs
 .let J:(i+(O.toArray.u:Int)).toNat=j:=by
   rw[seqIndex_neg Å W] at F;symm
  exact subscriptTail_builtinR (x:=w) pl.isList.typeIs slot_list_getitem.Q
   (wpAny_getItem_list_neg (Q:=λr s'=>r=w/\ô Q r s') pl.isList á (by rw[sA] <;> simp_all) Ô (by rw[J];simpa using U) ⟨rfl,fin⟩) hs
def zK:Jv X (ab5 X.K):=by
 intro jn vF pins s σ H x y v u Q I Y Z h hs;let(p,xs,i,z,rfl,rfl,U,J,q):=h;cases Y;let(t,rfl):=Z;let(aj,r,pl,hz):=I.tuple U;let(j,F,h2,h3,h4,h5):=RA J;let(w,m,W):=r.get h2;let O:=r.L;let hn:=EK;let fin:ô Q w s:=⟨z,H,I,W,q⟩;exact subscriptTail_builtinR (x:=w) pl.typeIs slot_tuple_getitem.Q
  (getItem_tuple (j:=j) (Q:=λr s'=>r=w/\ô Q r s') pl Ô Ô (by rw[sA,<-O];exact F) (À m) ⟨rfl,fin⟩) hs
def ab6(lo hi:Option Int)(n:Nat):(sliceBounds lo hi none n).1=((HT.mO n 0 lo:Nat):Int)/\(sliceBounds lo hi none n).2.1=((HT.mO n n hi:Nat):Int)/\(sliceBounds lo hi none n).2.2=1:=by
 apply(?_,?_,Á)
 .cases lo with
  |none=>rfl
  |some i=>
   simp only[sliceBounds,HT.mO,Option.getD_none,show(1:Int)>0 by decide,Ec];grind
 .cases hi with
  |none=>rfl
  |some i=>
   simp only[sliceBounds,HT.mO,Option.getD_none,show(1:Int)>0 by decide,Ec];grind
def ab7(j:LV)(lo hi:Option Int):slicePick j.toArray lo hi none=((j.drop (HT.mO j.L 0 lo)).take (HT.mO j.L j.L hi-HT.mO j.L 0 lo)).toArray:=by
 let(m,h2,z):=ab6 lo hi j.toArray.u;ext slicePick;rw[m,h2,z];simp only[sliceRange_one,pick_run,sA] <;> rfl
inductive RB(K:FR)(x:V)(lo:Option Int)(hi:Option Int)(H:Hp)(Q:VK):Prop
 |mk (a xs:_) (_:x=.ref a) (_:ã a xs) (_:∀p,H p=Β->Q ĝ (upd H p (.lst (oY xs lo hi))))
def xZ:Rx X (RB X.K):=by
 intro pins s σ H x v W Y lo hi sl Q I J hs pl F h;let(a,xs,rfl,z,q):=h;cases J;let(O,r,j,hz):=I.list z;let m:=r.L;apply⟨"list",_,slot_list_getitem.Q,j.isList.typeIs,?_⟩;apply wpAny_getItem_list_slice j.isList hs pl F .none Ä ?_ Å;rw[ab7,<-m];apply(.ref s.Z,_,I.laid (t':=s.toks) (o:=.lst (oY xs lo hi)) (λb U q=>cf _ q) (bw _) ?_,Á,q _ ğ);exact(gS (ab1 xs lo hi) hz,_,0,(r.drop (HT.mO xs.L 0 lo)).take (HT.mO xs.L xs.L hi-HT.mO xs.L 0 lo),eY _ Á)
def lZ:V->Bool
 |.aK=>true
 |.bl _=>true
 |.int _=>true
 |.str _=>true
 |_=>false
def qh:V->V->Bool
 |.aK,.aK=>true
 |.bl a,.bl b=>a==b
 |.bl a,.int b=>(if a then 1 else 0)==b
 |.int a,.bl b=>a==(if b then 1 else 0)
 |.int a,.int b=>a==b
 |.str a,.str b=>a==b
 |_,_=>false
theorem ab8(m:RelV y u)(j:RelV x v)(z:lZ y=true)(F:lZ x=true):SeqAt.EqAt A s u v (qh y x):=by
 cases y with
 |aK=>
  cases m;cases x with
  |aK=>cases j;exact SeqAt.EqAt.same _
  |bl b=>cases j;exact SeqAt.EqAt.none_bool b
  |int b=>let(t,rfl):=j;exact SeqAt.EqAt.none_int b t
  |str b=>let(t,rfl):=j;exact SeqAt.EqAt.none_str b t
  |_=>exact absurd (show false=true from F) d8
 |bl a=>
  cases m;cases x with
  |aK=>cases j;exact SeqAt.EqAt.bool_none a
  |bl b=>cases j;exact SeqAt.EqAt.bool_bool a b
  |int b=>let(t,rfl):=j;exact SeqAt.EqAt.bool_int a b t
  |str b=>let(t,rfl):=j;exact SeqAt.EqAt.bool_str a b t
  |_=>exact absurd (show false=true from F) d8
 |int a=>
  let(t',rfl):=m;cases x with
  |aK=>cases j;exact SeqAt.EqAt.int_none a t'
  |bl b=>cases j;exact SeqAt.EqAt.int_bool a t' b
  |int b=>let(t,rfl):=j;exact SeqAt.EqAt.int_int a t' b t
  |str b=>let(t,rfl):=j;exact SeqAt.EqAt.int_str a t' b t
  |_=>exact absurd (show false=true from F) d8
 |str a=>
  let(t',rfl):=m;cases x with
  |aK=>cases j;exact SeqAt.EqAt.str_none a t'
  |bl b=>cases j;exact SeqAt.EqAt.str_bool a t' b
  |int b=>let(t,rfl):=j;exact SeqAt.EqAt.str_int a t' b t
  |str b=>let(t,rfl):=j;exact SeqAt.EqAt.str_str a t' b t
  |_=>exact absurd (show false=true from F) d8
 |_=>exact absurd (show false=true from z) d8
def l5(x:V)(u:Value):Bool:=match u with
 |.none=>qh .aK x
 |.bool b=>qh (.bl b) x
 |.int i _=>qh Ãd x
 |.str z _=>qh (.str z) x
 |_=>false
theorem EM{x y:V}{u:Value}(r:RelV y u)(f:lZ y=true):l5 x u=qh y x:=by
 cases y with
 |aK=>cases r;rfl
 |bl b=>cases r;rfl
 |int i=>let(t,rfl):=r;rfl
 |str z=>let(t,rfl):=r;rfl
 |_=>exact absurd (show false=true from f) d8
theorem EN{x:V}:∀{xs:ay}{U:LV},a9 xs U->xs.all lZ=true->U.any Æt=xs.any λy=>qh y x:=by
 intro xs U h;induction h with
 |nil=>exact λ_=>Á
 |cons r t j=>
  intro f;rw[sC,jq] at f;rw[uJ,uJ,EM r f.1,j f.2]
theorem BP{A:Around}{s:Sh}{x:V}{v:Value}(z:RelV x v)(F:lZ x=true):∀{xs:ay}{U:LV},a9 xs U->xs.all lZ=true->∀u∈U,SeqAt.EqAt A s u v (l5 x u):=by
 intro xs U h;induction h with
 |nil=>intro _ u j;cases j
 |cons r t m=>
  intro f J j;rw[sC,jq] at f;rcases aV.mp j with rfl|j
  .rw[EM r f.1];exact ab8 r z f.1 F
  .exact m f.2 J j
def we(x:V)(xs:ay):Bool:=xs.any λy=>qh y x
inductive EO(K:FR)(neg:Bool)(x:V)(y:V)(H:Hp)(Q:VK):Prop
 |mk (p xs:_) (_:y=.ref p) (_:(ã p xs\/bz K H p xs)) (_:lZ x=true) (_:xs.all lZ=true) (_:Q (.bl (if neg then !we x xs else we x xs)) H)
def Jx:eU X (compareOp .In) (EO X.K false):=by
 show ò;let(p,xs,rfl,m,fx,fs,q):=h;cases ry;rcases m with m|m
 .let(j,r,pl,hz):=I.list m;apply SeqAt.in_listAt Æt pl.isList Ű ⟨.bl _,H,I,Á,?_⟩;rw[show j.toArray.any Æt=j.any Æt by simp,EN r fs];exact q
 .let(j,r,pl,hz):=I.tuple m;apply SeqAt.in_tupleAt Æt pl Ű ⟨.bl _,H,I,Á,?_⟩;rw[show j.toArray.any Æt=j.any Æt by simp,EN r fs];exact q
def ab9:eU X (compareOp .NotIn) (EO X.K true):=by
 show ò;let(p,xs,rfl,m,fx,fs,q):=h;cases ry;rcases m with m|m
 .let(j,r,pl,hz):=I.list m;apply SeqAt.notIn_listAt Æt pl.isList Ű ⟨.bl _,H,I,Á,?_⟩;rw[show j.toArray.any Æt=j.any Æt by simp,EN r fs];exact q
 .let(j,r,pl,hz):=I.tuple m;apply SeqAt.notIn_tupleAt Æt pl Ű ⟨.bl _,H,I,Á,?_⟩;rw[show j.toArray.any Æt=j.any Æt by simp,EN r fs];exact q
def gf:j5 X (.builtin "len") (λxs H Q=>∃p ys,xs=[.ref p]/\(ϳ p ys\/bz X.K H p ys)/\Q (.int ys.L) H):=by
 intro pins s σ H xs U Q I r h;let(p,ys,rfl,j,q):=h;let(u,rfl,J):=vals1 r;cases J;let O:=EK;rcases j with j|j
 .let(z,m,pl,hz):=I.list j;let F:=m.L;exact Calls.call_len_list pl.isList (by grind) ⟨.int ys.L,H,I.tok _,⟨s.toks+1,by simp_all⟩,q⟩
 .let(z,m,pl,hz):=I.tuple j;let F:=m.L;exact len_tuple pl (by grind) ⟨.int ys.L,H,I.tok _,⟨s.toks+1,by simp_all⟩,q⟩
def aca:j5 X (.type "list") (λxs H Q=>∃p ys,xs=[.ref p]/\(ϳ p ys\/bz X.K H p ys)/\∀l,H l=Β->Q Ãc (Ϣ Âk)):=by
 intro pins s σ H xs Y Q I r h;let(p,ys,rfl,F,q):=h;let(u,rfl,W):=vals1 r;cases W;let fin:∀(j:LV),a9 ys j->ys.L<=sizeLine->∀(h':Heap)(m:Nat),(∀b O,s.U b=Α O->h'.I b=Α O)->
   h'.I s.Z=Α {cls:=.type "list",dict:=Β,data:=.seq j.toArray m,slots:= #[]}->ô Q î {s with heap:=h'}:=λj z hz h' m kp e=>
  ⟨.ref s.Z,_,I.laid (t':=s.toks) kp (bw _) (show fO X.prog X.w _ h' _ Âk from⟨hz,j,m,z,e⟩),rfl,q _ ğ⟩
 rcases F with F|F
 .let(j,z,pl,hz):=I.list F;let U:=z.L;let(o,J,hc,n,hd):=pl.isList;exact call_list_seq p ě J hc hd (λh' m kp e=>fin j z hz h' m kp e) Å
 .let(j,z,pl,hz):=I.tuple F;let U:=z.L;let(o,J,hc,n,hd):=pl;exact call_list_seq p Éc J hc hd (λh' m kp e=>fin j z hz h' m kp e) Å
def RC:j5 X (.type "tuple") (λxs H Q=>∃p ys,xs=[.ref p]/\((ϳ p ys/\∀l,H l=Β->Q Ãc (Ϣ Æe))\/(bz X.K H p ys/\Q ĝ H))):=by
 intro pins s σ H xs U Q I r h;let(p,ys,rfl,h):=h;let(u,rfl,J):=vals1 r;cases J;rcases h with ⟨m,q⟩|⟨m,q⟩
 .let(j,z,pl,hz):=I.list m;let O:=z.L;apply call_tuple_list pl.isList (λh' kp=>?_) Å;let I1:Ã H {s with heap:=h'}:=I.kept (t':=s.toks) kp;let F:Ã (upd H h'.O Æe) {s with heap:=h'.push {cls:=.type "tuple",data:=.seq j.toArray}}:=
   I1.laid (t':=s.toks) Ås (bw _) (show fO X.prog X.w _ _ _ Æe from⟨hz,j,z,IsTup.new _ _⟩)
  exact(.ref h'.O,_,F,Á,q _ Ãw)
 .let(j,z,pl,hz):=I.tuple m;exact call_tuple_same pl ⟨.ref p,H,I,Á,q⟩
def Jy(K:FR)(T:String)(x:V)(H:Hp):Prop:=match x with
 |.str _=>T="str"
 |.int _=>T="int"
 |.ref p=>(T="list"/\∃xs,ã p xs)\/(T="tuple"/\∃o,K.Q p=Α o/\o.cls=.type "tuple"/\o.dict=Β)\/
   (T="dict"/\((∃kvs,H p=Α ē)\/∃kvs,H p=Α Ãf))\/(T="set"/\∃S n,H p=Α (.set S n))
 |_=>False
def RD(I:Ã H s)(r:RelV x v)(j:Jy X.K T x H):
  s.TypeIs v T/\∀a,v=.ref a->∃O,s.U a=Α O/\O.dict=Β:=by
 cases x with
 |str z=>
  let(t,rfl):=r;cases (show T="str" from j);exact(typeIs_str s z t,λ_ e=>nomatch e)
 |int i=>
  let(t,rfl):=r;cases (show T="int" from j);exact(typeIs_int s i t,λ_ e=>nomatch e)
 |ref p=>
  cases r;rcases j with ⟨rfl,xs,F⟩|⟨rfl,o,hk,hc,hd⟩|⟨rfl,hk⟩|⟨rfl,S,n,hk⟩
  .let(J,_,pl,_):=I.list F;apply(pl.isList.typeIs,λa e=>?_);cases e;let(o,n,e,c,hd,_):=pl;symm
  .apply(⟨o,I.fQ p o hk,hc⟩,λa e=>?_);cases e;exact(o,I.fQ _ o hk,hd)
  .let z:∃o,s.U p=Α o/\o.ExactDict:=by
    rcases hk with ⟨kvs,hk⟩|⟨kvs,hk⟩
    .let(_,_,_,_,o,_,_,e,ex,_):=I.ax p _ hk;symm
    .let(_,_,_,_,o,_,_,e,ex,_):=I.ax p _ hk;symm
   let(o,e,ex):=z;apply(⟨o,e,ex.1⟩,λa m=>?_);cases m;exact(o,e,ex.2.1)
  .let(o,_,_,_,e,ex,_):=I.ax p _ hk;apply(⟨o,e,ex.1⟩,λa m=>?_);cases m;exact(o,e,ex.2.1)
 |_=>exact False.elim j
def acb(K:FR)(T:String)(r:V->ay->Hp->VK->Prop)(to:TE):TE:=λσ H Q=>to σ H λx H1=>Jy K T x H1/\r x [] H1 Q
def RE(K:FR)(T:String)(r:V->ay->Hp->VK->Prop)(to:TE)(t:TA):TE:=λσ H Q=>to σ H λx H1=>Jy K T x H1/\t σ H1 λxs j=>r x xs j Q
variable{o e:Expr}{es:List Expr}{to:TE}{t:TA}{name:Str}{i4 gh:Pos}{T id:String}{r:V->ay->Hp->VK->Prop}
def RF(O:PlainAttrs T)(slot:Slot T name id)(Y:typeOf ϖ=pure (.type "method_descriptor"))(F:Jw X id r)(J:PE X o to)(uL:attributeBase o name X.env Är=eval o X.env:=by rfl) (x3:(i4.endLine==gh.line)=true:=by rfl):PE X (.Call (.Attribute o name i4) [] [] gh) (acb X.K T r to):=by
 show Ö;apply wpAny_Call_method0_late uL x3 (aL (J pins s σ H _ I h) λv W ⟨x,H1,j,m,Z,U⟩=>?_);let(z,h2):=RD j m Z;exact(T,id,O,slot,Y,z,h2,Il Á (PySem.evalArgs_none (F pins W σ H1 x [] v [] Q j m .nil U)))
def sW(pa:PlainAttrs T)(slot:Slot T name id)(sV:typeOf ϖ=pure (.type "method_descriptor"))(Y:Jw X id r)(Z:PE X o to)(W:PA X (e::es) t)(uL:attributeBase o name X.env Är=eval o X.env:=by rfl)(zL:((backTo gh (starEach (e::es) X.env)).all (λx=>!x.1)&&(backToKw gh Àa).all (λx=>x.1.isSome)
   &&decide ((e::es).L+([]:List Keyword).L+(if ([]:List Keyword).isEmpty then 0 else 1)<30))=true:=by rfl)
  (x3:(i4.endLine==gh.line)=true:=by rfl) (hs:starEach (e::es) X.env=(false,eval e X.env)::starEach es X.env:=by rfl) (O:(backTo gh ø).any (·.1)=false:=by rfl):
  PE X (.Call (.Attribute o name i4) (e::es) [] gh) (RE X.K T r to t):=by
 show Ö;apply wpAny_Call_method_late uL zL x3 Á (aL (Z pins s σ H _ I h) λv s1 ⟨x,H1,j,z,ty,q1⟩=>?_);let(U,h2):=RD j z ty;apply(T,id,pa,slot,sV,U,h2,?_);let m:=W gh pins s1 σ H1 _ j q1;rw[hs] at m⊢;apply Il (by assumption) (Qc ?_);exact aL m λus s2 ⟨vs,F,J,r2,q2⟩=>Y pins s2 σ F x vs v us Q J z r2 q2
end
def Jz(X:Cx)(id:String)(r:V->ay->Hp->VK->Prop):Prop:=
 ∀(pins:bJ)(s:Sh)(σ:St)(H:Hp)(x:V)(xs:ay)(v:Value)(U:LV)(Q:VK),Ã H s->RelV x v->a9 xs U->r x xs H Q->
  wpAny É X.A (call ϖ (v::U)) (ô Q) X.xe s
theorem a9.one:∀{x:V}{U:LV},a9 [x] U->∃u,U=[u]/\RelV x u:=by
 intro x U h;cases h with
 |cons r t=>cases t;exact(_,Á,r)
def a9.zero:∀{U:LV},a9 [] U->U=[]:=by
 intro U h;cases h;rfl
theorem a9.dropLast(h:a9 xs us):a9 xs.dropLast us.dropLast:=by
 induction h with
 |nil=>exact .nil
 |cons r t j=>
  cases t with
  |nil=>exact .nil
  |cons q t'=>exact .cons r j
def acd(l:List α):l.eraseIdx (l.L-1)=l.dropLast:=by
 simp
section
variable{X:Cx}{pins:bJ}{σ:St}{H:Hp}{s:Sh}{l b:Addr}{xs ys zs:ay}
def Inv.JA{j its':LV}{n:Nat}{f:Array Value->Array Value}{t':Nat}(I:Ã H s)(m:H l=Α Ào)(e:s.U l=Α {cls:=.type "list",data:=.seq j.toArray n}) (F:f j.toArray=its'.toArray) (O:a9 ys its') (hz:ys.L<=sizeLine):
  Inv X pins σ (Ϣ Âk) {s with heap:=s.H.update l (Obj.mapSeq f),toks:=t'}:=by
 let q:=PySem.IsL.update e f;rw[F] at q;apply I.write (x:=l) (e:=l) (by rw[m];exact trivial) ě (λU u z J=>(uD s.H (Obj.mapSeq f) (dj z)).R J) ⟨_,q⟩ ?_;exact(hz,its',_,O,q)
def Inv.ace{j:LV}{t':Nat}(I:Ã H s)(m:a9 ys j)(hz:ys.L<=sizeLine):
  Inv X pins σ (Ĕ Âk) {s with heap:=s.o {cls:=.type "list",data:=.seq j.toArray},toks:=t'}:=
 I.laid (λ_ _ q=>cf _ q) (bw _) ⟨hz,j,0,m,eY _ rfl⟩
def Inv.fresh(I:Ã H s):H s.Z=Β:=I.ax.fresh (bw _)
def Inv.zM(I:Ã H s)(m:H l=Α Ào):xs.L<=sizeLine/\∃(j:LV)(n:Nat),a9 xs j/\xs.L=j.L/\s.U l=Α {cls:=.type "list",data:=.seq j.toArray n}:=by
 let(z,j,n,r,e):=I.ax l _ m;exact(z,j,n,r,r.L,e)
def acf{n:Nat}(h:n<=sizeLine):Builtin.List.listTooLong n=false:=by
 ext Builtin.List.listTooLong;symm
end
inductive acg(x:V)(vs:ay)(H:Hp)(Q:VK):Prop
 |mk (l xs y:_) (_:x=.ref l) (_:vs=[y]) (_:H l=Α Ào) (_:xs.L<sizeLine) (_:Q .aK (Ϣ (.lst (xs++[y]))))
def zN:Jz X "list.append" acg:=by
 intro pins s σ H x vs v Y Q I U O h;let(l,xs,y,rfl,rfl,m,hz,q):=h;cases U;let(u,rfl,J):=O.one;let(z,j,n,r,W,e):=I.zM m;apply Im F.slot_list_append ⟨_,e,Á⟩ F.entry_list_append (F.args_list_append_2 _ _) (PySem.list_append l j.toArray n u Å) ⟨e,?_⟩;apply(.aK,_,I.JA (its':=j++[u]) m e Ä (r.append (.cons J .nil)) ?_,Á,q);grind
inductive ach(x:V)(vs:ay)(H:Hp)(Q:VK):Prop
 |mk (l b xs zs:_) (_:x=.ref l) (_:vs=[.ref b]) (_:H l=Α Ào) (_:H b=Α (.lst zs)) (_:xs.L+zs.L<=sizeLine) (_:Q .aK (Ϣ (.lst (xs++zs))))
def RG:Jz X "list.extend" ach:=by
 intro pins s σ H x vs v us Q I rx rv h;let(l,b,xs,zs,rfl,rfl,O,W,hz,q):=h;cases rx;let(u,rfl,ru):=rv.one;cases ru;let(z,j,n,r,hl,e):=I.zM O;let(z2,m,Y,Z,ju,U):=I.zM W;let hsz:j.toArray.u+m.toArray.u<=sizeLine:=by rw[sA,sA];symm
 let J:¬(!j.toArray.isEmpty&&Builtin.List.listTooLong (j.toArray.u+m.toArray.u))=true:=by
  rw[acf hsz,zj];simp
 refine Im F.slot_list_extend ⟨_,e,Á⟩ F.entry_list_extend (F.args_list_extend_2 _ _)
  (AutoSeq1.list_extend_list_list_0 l j.toArray n b m.toArray Y J (by rw[sA];symm) Ô) ⟨e,U,?_⟩
 apply(.aK,_,I.JA (its':=j++m) O e Ä (r.append Z) ?_,Á,q);symm
inductive acj(x:V)(vs:ay)(H:Hp)(Q:VK):Prop
 |mk (l xs y:_) (_:x=.ref l) (_:vs=[]) (_:H l=Α Ào) (_:xs[xs.L-1]? =Α y) (_:Q y (Ϣ (.lst xs.dropLast)))
def RH:Jz X "list.pop" acj:=by
 intro pins s σ H x vs v us Q I rx rv h;let(l,xs,y,rfl,rfl,J,Y,q):=h;cases rx;let m:=rv.zero;subst m;let(z,j,n,r,U,e):=I.zM J;let(u,W,Z):=r.get Y;let O:j.toArray[j.toArray.u-1]? =Α u:=by
  show j.toArray[j.L-1]? =Α u;rw[<-zk,<-U];exact W
 apply Im F.slot_list_pop ⟨_,e,Á⟩ F.entry_list_pop (F.args_list_pop_1 _) (MeetsSeq.list_pop_last l j.toArray n u O (by rw[sA];symm)) ⟨e,?_⟩;apply(y,_,I.JA (its':=j.dropLast) J e ?_ r.dropLast ?_,Z,q)
 .show j.toArray.eraseIdxIfInBounds (j.toArray.u-1)=j.dropLast.toArray;rw[sA,List.eraseIdxIfInBounds_toArray,acd]
 .rw[Zx];grind
inductive RI(x:V)(y:V)(H:Hp)(Q:VK):Prop
 |mk (l b xs zs:_) (_:x=.ref l) (_:y=.ref b) (_:H l=Α Ào) (_:H b=Α (.lst zs)) (_:xs.L+zs.L<=sizeLine) (_:∀p,H p=Β->Q ĝ (upd H p (.lst (xs++zs))))
def RJ:eU X (binaryOp .Add) RI:=by
 show ò;let(l,b,xs,zs,rfl,rfl,U,O,hz,q):=h;cases rx;cases ry;let(z,j,n,r,Y,e):=I.zM U;let(z2,m,n2,W,Z,F):=I.zM O;apply PySem.P.add_list e F ?_ Å;let J:j.toArray++m.toArray=(j++m).toArray:=by simp
 rw[J];exact(.ref _,_,I.ace (t':=s.toks) (r.append W) Å,Á,q _ I.fresh)
theorem a9.ints{ns:LI}:∀{U:LV},a9 Ŀ U->IntsAre U ns:=by
 induction ns with
 |nil=>
  intro U h;rw[mr] at h;cases h;exact IntsAre.nil
 |cons n ns j=>
  intro U h;rw[a8] at h;cases h with
  |cons r t=>
   let(k,rfl):=r;exact IntsAre.cons n k (j t)
theorem a9.RK{bs:List Bool}:∀{U:LV},a9 (bs.M V.bl) U->U=bs.M Value.bool:=by
 induction bs with
 |nil=>
  intro U h;rw[mr] at h;cases h;rfl
 |cons b bs j=>
  intro U h;rw[a8] at h;cases h with
  |cons r t=>
   cases r;rw[j t,a8]
theorem a9.zO{a:Addr}{U:LV}(r:a9 [V.ref a] U):U=[Value.ref a]:=by
 cases r with
 |cons r t=>
  cases t;cases r;rfl
def acm(z:A.handled=Β)(j:s.H.IsList l aj.toArray)(hi:IntsAre aj ns)(h:∀h' tk t',(∀b o,s.U b=Α o->h'.I b=Α o)->Q (.int ns.sum t') {s with heap:=h',toks:=tk}):wpAny Ë A (call (.builtin "sum") [.ref l]) Q E s:=by
 let(xs,e):=hi.allInts.items;let m:numsOf (intItems xs).toList=ns:=by rw[<-e];exact hi.numsOf
 rw[nums_intItems] at m;rw[e] at j;apply PySem.sum_intListG z j λh' tk t' hk=>?_;let:=h h' tk t' hk;rw[preSum_eq,Io Ä,m];exact this
def acn(O:A.handled=Β)(m:s.H.IsList l aj.toArray)(hi:IntsAre aj ns)(F:0<ns.L)(h:∀h' tk M t',(∀b o,s.U b=Α o->h'.I b=Α o)->M∈ns->(∀a,a∈ns->M<=a)->Q (.int M t') {s with heap:=h',toks:=tk}):wpAny Ë A (call (.builtin "min") [.ref l]) Q E s:=by
 let(xs,e):=hi.allInts.items;let z:numsOf (intItems xs).toList=ns:=by rw[<-e];exact hi.numsOf
 rw[nums_intItems] at z;subst z;rw[e] at m;let hsz:0<xs.u:=À F
 apply PySem.min_intList O m hsz λv h' tk W hk=>?_;let(t,rfl):=intItems_at W;let(Y,h2):=argBest_lt (numAt xs) (xs.u-1);apply h h' tk _ t hk ?_ λa J=>?_
 .rw[numAt_eq];exact PySem.getD_mem (by rw[az,ml];omega)
 .let(j,U,rfl):=mem_getD J;rw[az,ml] at U;rw[<-numAt_eq];exact h2 j á
inductive aco(K:FR)(vs:ay)(H:Hp)(Q:VK):Prop
 |mk (a:Addr) (ns:LI) (_:vs=[V.ref a]) (_:ã a Ŀ) (_:Q (.int ns.sum) H)
def acp(K:FR):ay->Hp->VK->Prop:=λvs H Q=>∃(a:Addr)(ns:LI),vs=[V.ref a]/\ã a Ŀ/\0<ns.L/\∀m,m∈ns->(∀y,y∈ns->m<=y)->Q (.int m) H
def RL(hc:X.calm=true):j5 X (.builtin "sum") (aco X.K):=by
 intro pins s σ H vs U Q I r h;let(a,ns,rfl,hs,q):=h;let(z,m,j,_):=I.list hs;rw[a9.zO r];exact acm Ā j.isList m.ints λh' tk t' hk=>⟨.int _,H,I.kept hk,⟨_,Á⟩,q⟩
def RM(hc:X.calm=true):j5 X (.builtin "min") (acp X.K):=by
 intro pins s σ H vs U Q I r h;let(a,ns,rfl,hs,j,q):=h;let(O,J,F,_):=I.list hs;rw[a9.zO r];exact acn Ā F.isList J.ints j λh' tk m t' hk z h2=>⟨.int _,H,I.kept hk,⟨_,Á⟩,q m z h2⟩
inductive RN(K:FR)(x:V)(xs:ay)(H:Hp)(Q:VK):Prop
 |mk (a:Addr) (ys:ay) (y:V) (j:Nat) (z:V) (_:x=V.ref a) (_:xs=[y]) (_:ã a ys) (_:lZ y=true) (_:ys.all lZ=true) (_:ys[j]? =Α z) (_:qh z y=true) (_:(∀(m:Nat)(z':V),m<j->ys[m]? =Α z'->qh z' y=false)) (_:Q (.int (j:Nat)) H)
def RO{ys:ay}(f:ys.all lZ=true){j:Nat}{z:V}(h:ys[j]? =Α z):lZ z=true:=lV.mp f z (bY h)
def RP:Jw X "list.index" (RN X.K):=by
 intro pins s σ H x xs v us Q I rx rxs h;let(a,ys,y,j,z,rfl,rfl,hs,fy,W,hz,hzj,BR,q):=h;cases rx;cases rxs with
 |cons ry rt=>
  rename_i uy ut;cases rt;let(J,O,((cls,dd,data,sl),n,ho,hc,hdn,hd),cE):=I.list hs;simp only at hc hd;subst hc hd;let(u,hu,ru):=O.get hz;let(wg,Z):=bO.mp hu;let JC:=O.L;let hj:j<J.toArray.u:=À wg
  let BS:=uF;refine Im PySem.F.slot_list_index ⟨_,ho,Á⟩ PySem.F.entry_list_index (PySem.F.args_list_index_2 _ _)
   (SeqAt.list_indexAt a J.toArray n dd sl uy (l5 y) j hj Ô ?_ ?_) ⟨ho,λu' hu'=>BP ry fy O W u' (À hu'),?_⟩
  .let Y:J.toArray[j]=u:=by simpa using Z
   rw[Y,EM ru (RO W hz)];exact hzj
  .intro m hm hmj;let BU:m<J.L:=by simpa using hm
   let hmy:m<ys.L:=by simp_all
   let U:ys[m]? =Α ys[m]:=c7 hmy;let(u2,JD,JE):=O.get U;let(_,hme):=bO.mp JD;let Y:J.toArray[m]=u2:=À hme
   rw[Y,EM JE (RO W U)];exact BR m _ hmj U
  .exact(.int (j:Nat),H,I.tok _,⟨_,Á⟩,q)
def RQ{prog:Pg}{w:Wd}{A:Around}{E:VP}{s:Sh}{l:Addr}{items:Array Value}{Q:VP}(m:s.H.IsList l items)(h:∀j:Sh,j={s with heap:=s.o {cls:=.type "list_iterator",data:=.fields #[.ref l,.int 0 0]}}->
   (j.H.IsListIter s.Z l 0/\j.H.IsList l items)->l≠s.Z->Q î j):wpAny Ë A (pyIter Ãc) Q E s:=by
 let z:l<s.Z:=by let(_,e,_):=m;exact cq e
 exact P8 m (h _ Á ⟨⟨_,eY _ Á,Á,Á⟩,m.push _⟩ (dX z))
def RR{prog:Pg}{w:Wd}{A:Around}{bs:List Bool}{j:LV}(e:j=bs.M Value.bool):
  TruthOf prog w A (λi v=>j.toArray[i]? =Α v) Âp:=λi v s Q E U O=>by
 let z:j[i]? =Α v:=À U
 rw[e,bU] at z;let(b,F,rfl):=zf.mp z;let J:bs.D i false=b:=by rw[ip,F] <;> rfl
 let m:Q (bs.D i false) s:=O;rw[J] at m;exact uH m
theorem any_range:∀bs:List Bool,(List.range bs.L).any Âp=bs.any id:=by
 intro bs;induction bs with
 |nil=>exact Á
 |cons b bs j=>
  rw[df,Ed,uJ,Qe,uJ,<-j]
  all_goals rfl
theorem all_range:∀bs:List Bool,(List.range bs.L).all Âp=bs.all id:=by
 intro bs;induction bs with
 |nil=>exact Á
 |cons b bs j=>
  rw[df,Ed,sC,sD,sC,<-j]
  all_goals rfl
inductive acy(K:FR)(vs:ay)(H:Hp)(Q:VK):Prop
 |mk (a:Addr) (bs:List Bool) (_:vs=[V.ref a]) (_:ã a (bs.M V.bl)) (_:Q (.bl (bs.any id)) H)
inductive acz(K:FR)(vs:ay)(H:Hp)(Q:VK):Prop
 |mk (a:Addr) (bs:List Bool) (_:vs=[V.ref a]) (_:ã a (bs.M V.bl)) (_:Q (.bl (bs.all id)) H)
def RS(hc:X.calm=true):j5 X (.builtin "any") (acy X.K):=by
 intro pins s σ H vs us Q I r h;let(a,bs,rfl,hs,q):=h;let(J,Y,W,_):=I.list hs;rw[a9.zO r];let z:=Y.RK;apply call_any_walk (RQ W.isList λZ U st F=>?_);subst U;apply(_,_,_,_,_,_,_,Á,Walks.list (A:=X.A.in1) Ā _ a F J.toArray,st,RR z,λh' tk hk=>?_);apply(.bl _,H,I.kept λb o j=>hk b o (λm=>?_) (cf _ j),?_,q)
 .rcases aV.mp m with O|m
  .exact absurd (O▸ cq j) (qT _)
  .symm
 .show Value.bool _=Value.bool _;rw[<-any_range,z,sA,az]
def wj(hc:X.calm=true):j5 X (.builtin "all") (acz X.K):=by
 intro pins s σ H vs us Q I r h;let(a,bs,rfl,hs,q):=h;let(J,Y,W,_):=I.list hs;rw[a9.zO r];let z:=Y.RK;apply call_all_walk (RQ W.isList λZ U st F=>?_);subst U;apply(_,_,_,_,_,_,_,Á,Walks.list (A:=X.A.in1) Ā _ a F J.toArray,st,RR z,λh' tk hk=>?_);apply(.bl _,H,I.kept λb o j=>hk b o (λm=>?_) (cf _ j),?_,q)
 .rcases aV.mp m with O|m
  .exact absurd (O▸ cq j) (qT _)
  .symm
 .show Value.bool _=Value.bool _;rw[<-all_range,z,sA,az]
mutual
inductive Dp(K:FR)(H:Hp):V->PyData->Prop
 |aK:Dp K H .aK .none
 |bl (b:Bool):Dp K H (.bl b) (.bool b)
 |int (i:Int):Dp K H Ãd Ãd
 |str (x:Str):Dp K H Çk Çk
 |lst {a:Addr} {xs:ay} {ds:List PyData}:ã a xs->jc K H xs ds->Dp K H ā (.list ds)
 |tup {a:Addr} {xs:ay} {ds:List PyData}:ŭ a xs->jc K H xs ds->Dp K H ā (.tuple ds)
inductive jc(K:FR)(H:Hp):ay->List PyData->Prop
 |nil:jc K H [] []
 |cons {v:V} {vs:ay} {d:PyData} {ds:List PyData}:Dp K H v d->jc K H vs ds->jc K H (v::vs) (d::ds)
end
section
variable{X:Cx}{pins:bJ}{σ:St}{H:Hp}{s:Sh}
def Dp.reads(I:Ã H s)(d:PyData)(v:V)(u:Value)(h:Dp X.K H v d):RelV v u->∃as,Reads s.H u d as:=
 Dp.rec (motive_1:=λv d _=>∀u,RelV v u->∃as,Reads s.H u d as) (motive_2:=λvs J _=>∀U,a9 vs U->∃as,ReadsAll s.H U J as)
  (λu r=>by cases r;exact(_,Reads.none)) (λb u r=>by cases r;exact(_,Reads.bool b)) (λi u r=>by let(t,rfl):=r;exact(_,Reads.int i t)) (λx u r=>by let(t,rfl):=r;exact(_,Reads.str x t))
  (λhs _ z u r=>by
   cases r;let(j,F,(o,n,m,hc,_,hd),_):=I.list hs;let(as,hr):=z j F;exact(_,Reads.list m hc hd hr))
  (λhs _ z u r=>by
   cases r;let(j,F,(o,m,hc,n,hd),_):=I.tuple hs;let(as,hr):=z j F;exact(_,Reads.tuple m hc hd hr))
  (λU r=>by cases r;exact(_,ReadsAll.nil))
  (λ_ _ O W U r=>by
   cases r with
   |cons r1 r2=>
    let(as,Y):=O _ r1;let(bs,Z):=W _ r2;exact(_,ReadsAll.cons Y Z)) h u
end
def acA(K:FR):R2:=λx y H Q=>∃d e,Dp K H x d/\Dp K H y e/\SeqAt.shaped d=true/\SeqAt.shaped e=true/\Q (.bl (PyData.eqv d e)) H
def acB(K:FR):R2:=λx y H Q=>∃d e,Dp K H x d/\Dp K H y e/\SeqAt.shaped d=true/\SeqAt.shaped e=true/\Q (.bl (!PyData.eqv d e)) H
def RT(m:X.A.units+64<cLine):eU X Áo (acA X.K):=by
 show ò;let(d,e,hd,j,sd,J,q):=h;let(as,z):=Dp.reads I d x v hd rx;let(bs,F):=Dp.reads I e y u j ry;exact SeqAt.compareEq_shaped z F sd J m ⟨.bl _,H,I,Á,q⟩
def JF(m:X.A.units+64<cLine):eU X Áv (acB X.K):=by
 show ò;let(d,e,hd,j,sd,J,q):=h;let(as,z):=Dp.reads I d x v hd rx;let(bs,F):=Dp.reads I e y u j ry;exact SeqAt.compareNe_shaped z F sd J m ⟨.bl _,H,I,Á,q⟩
end L2
namespace L2
open PySem PySem.Spec PyProof.Rows
abbrev RU(h:Heap)(c:Addr)(v:Option Value):Prop:=h.IsCell c v
def acC(scope j:Scope):Scope:=
 {scope with names:=scope.names.M λ(n,k)=>if (k== .free&&j.kind== .function&&j.names.Q n==Α .cell) then (n,.cell) else (n,k)}
def jd(cells:eZ):List (Str×NameKind)->eZ->eZ
 |[],acc=>acc
 |(n,k)::r,acc=>if k== .free then jd cells r ((n,(cells.Q n).D 0)::acc) else jd cells r acc
def acD(env:Env)(f:Str×NameKind->eZ->Sem (ForInStep eZ))(F:∀n k c,f (n,k) c=if k== .free then (do let a <-cellOf env n;pure (.yield ((n,a)::c))) else pure (.yield c)):
  ∀(names:List (Str×NameKind))(acc:eZ),(∀y∈names,y.2=.free->∃c,env.cells.Q y.1=Α c)->forIn names acc f=pure (jd env.cells names acc):=by
 intro names;induction names with
 |nil=>
  intro acc _;rw[List.forIn_nil];rfl
 |cons m r j=>
  let(n,k):=m;intro acc h;rw[List.forIn_cons,F];let j:=λacc=>j acc λy J=>h y (aQ _ J);ext jd;by_cases hk:(k==NameKind.free)=true
  .rw[af hk,af hk];let(c,hc):=h (n,k) gn (À hk);let e:cellOf env n=pure c:=by ext cellOf;rw[hc]
   rw[e];let z:(env.cells.Q n).D 0=c:=by rw[hc];rfl
   rw[z];exact j _
  .rw[ag hk,ag hk];exact j _
def acE(h:∀y∈scope.names,y.2=.free->∃c,env.cells.Q y.1=Α c):closureFor scope env=pure (jd env.cells scope.names []):=by
 simp only[closureFor];rw[acD env _ (λn k c=>rfl) scope.names [] h];rfl
theorem mem_lookup{α:Type}{l:List (Str×α)}:∀{n:Str}{c:α},(n,c)∈l->∃j,l.Q n=Α j:=by
 induction l with
 |nil=>intro n c h;cases h
 |cons p r m=>
  intro n c h;let(k,v):=p;rw[vL];cases hb:n==k with
  |true=>exact(_,Á)
  |false=>
   rcases aV.mp h with e|h
   .cases e;simp at hb
   .exact m h
theorem RV{cells:eZ}{names:List (Str×NameKind)}:∀{acc:eZ}{n:Str}{c:Addr},(n,c)∈jd cells names acc->(n,c)∈acc\/((n,.free)∈names/\c=(cells.Q n).D 0):=by
 induction names with
 |nil=>exact @λ_ _ _ h=>.inl h
 |cons z r F=>
  let(m,k):=z;intro acc n c h;delta jd at h;split at h
  .rename_i hk;let hk:k=.free:=by simpa using hk
   rcases F h with h|⟨j,h2⟩
   .rcases aV.mp h with e|h
    .cases e;exact .inr ⟨hk▸ gn,Á⟩
    .exact .inl h
   .exact .inr ⟨aQ _ j,h2⟩
  .rcases F h with h|⟨j,h2⟩
   .exact .inl h
   .exact .inr ⟨aQ _ j,h2⟩
theorem acF{cells:eZ}{names:List (Str×NameKind)}:∀{acc:eZ}{p:Str×Addr},p∈acc->p∈jd cells names acc:=by
 induction names with
 |nil=>exact @λ_ _ h=>h
 |cons j r z=>
  let(m,k):=j;intro acc p h;ext jd;split
  .exact z (aQ _ h)
  .exact z h
theorem acG{cells:eZ}{names:List (Str×NameKind)}:∀{acc:eZ}{n:Str},(n,.free)∈names->(n,(cells.Q n).D 0)∈jd cells names acc:=by
 induction names with
 |nil=>intro acc n h;cases h
 |cons p r j=>
  intro acc n h;ext jd;rcases aV.mp h with e|h
  .cases e;exact acF gn
  .split
   .exact j h
   .exact j h
def JG{names:List (Str×NameKind)}:∀{h:Heap}{acc:eZ}{x:Str}{c:Addr},(x,c)∈cellsFrom h.O names acc->
  (x,c)∈acc\/((x,.cell)∈names/\h.O<=c/\RU (pushCells h names) c none):=by
 induction names with
 |nil=>exact @λ_ _ _ _ h=>.inl h
 |cons F r J=>
  let(n,k):=F;intro h acc x c j;delta cellsFrom at j;ext pushCells;split at j
  .rename_i hk;rw[af hk];let hk:k=.cell:=by simpa using hk
   rw[<-mj h {cls:=.type "cell",data:=.cell none}] at j;rcases J j with j|⟨m,h2,z⟩
   .rcases aV.mp j with e|j
    .cases e;exact .inr ⟨hk▸ gn,bw _,_,Qg r _ _ _ (eY _ Á),Á⟩
    .exact .inl j
   .rw[mj] at h2;exact .inr ⟨aQ _ m,Qh h2,z⟩
  .rename_i hk;rw[ag hk];rcases J j with j|⟨m,h2,z⟩
   .exact .inl j
   .exact .inr ⟨aQ _ m,h2,z⟩
theorem RW{names:List (Str×NameKind)}:∀{n:Nat}{acc:eZ}{p:Str×Addr},p∈acc->p∈cellsFrom n names acc:=by
 induction names with
 |nil=>exact @λ_ _ _ h=>h
 |cons j r z=>
  let(m,k):=j;intro n acc p h;ext cellsFrom;split
  .exact z (aQ _ h)
  .exact z h
theorem acH{names:List (Str×NameKind)}:∀{n:Nat}{acc:eZ}{x:Str},(x,.cell)∈names->∃c,(x,c)∈cellsFrom n names acc:=by
 induction names with
 |nil=>intro n acc x h;cases h
 |cons p r j=>
  intro n acc x h;ext cellsFrom;rcases aV.mp h with e|h
  .cases e;exact(n,RW gn)
  .split
   .exact j h
   .exact j h
def acI{names:List (Str×NameKind)}:∀{h:Heap}{acc:eZ}{x y:Str}{c:Addr},(∀p∈acc,p.2<h.O)->(∀x y c,(x,c)∈acc->(y,c)∈acc->x=y)->
  (x,c)∈cellsFrom h.O names acc->(y,c)∈cellsFrom h.O names acc->x=y:=by
 induction names with
 |nil=>exact @λ_ _ _ _ _ _ hi j h2=>hi _ _ _ j h2
 |cons z r O=>
  let(n,k):=z;intro h acc x y c m hi j h2;delta cellsFrom at j h2;split at j
  .rename_i hk;rw[af hk] at h2;rw[<-mj h {cls:=.type "cell",data:=.cell none}] at j h2;apply O (h:=h.push _) (λp F=>?_) (λx y c a b=>?_) j h2
   .rw[mj];rcases aV.mp F with rfl|F
    .exact D5 _
    .exact xF (m p F)
   .rcases aV.mp a with e|a <;> rcases aV.mp b with J|b
    .cases e;cases J;rfl
    .cases e;exact absurd (m _ b) (qT _)
    .cases J;exact absurd (m _ a) (qT _)
    .exact hi _ _ _ a b
  .rename_i hk;rw[ag hk] at h2;exact O m hi j h2
def acJ{M:Model}{A:Around}{E:VP}{s:Sh}{scope:Scope}{globals:Addr}{j:eZ}{F:Str}{Z:OA}{code:Value}{z:Env}{m:Addr}{Q:Env->Shared->Prop}(h:Q (newEnv scope s.Z globals (cellsFrom Î scope.names j) F Z code (some z) m) {s with heap:=pushCells (s.o {cls:=.type "dict",data:=.dict #[]}) scope.names}):
  wpAny M A (newFunctionEnv scope globals j [] F Z code (some z) m) Q E s:=by
 simp only[newFunctionEnv,arF,Ec];apply au (wpAny_alloc ?_);apply au (wpAny_layCells _ (λn k c=>Á) scope.names j _ _ ?_);rw[show({s with heap:=s.o {cls:=.type "dict",data:=.dict #[]}}:Sh).Z=s.Z+1 from mj ..];rw[List.forIn_nil];exact au (aP (aP h))
def RX{j:Scope}{names:List (Str×NameKind)}:∀{x:Str}{k:NameKind},
  (names.M λ(n,k)=>if (k==NameKind.free&&j.kind== .function&&j.names.Q n==Α .cell) then (n,NameKind.cell) else (n,k)).Q x=Α k->
  ∃J,names.Q x=Α J/\(k=J\/(J=.free/\k=.cell)):=by
 induction names with
 |nil=>
  intro _ _ h;simp at h
 |cons F r z=>
  let(n,m):=F;intro x k h;let z:=@z x k;let h':List.lookup x ((if (m==NameKind.free&&j.kind== .function&&j.names.Q n==Α .cell)=true then (n,NameKind.cell) else (n,m))::(r.M _))=Α k:=h;cases hx:x==n with
  |true=>
   simp only[vL,hx];by_cases hc:(m==NameKind.free&&j.kind== .function&&j.names.Q n==Α .cell)=true
   .rw[af hc] at h';simp only[vL,hx] at h';cases h';simp only[jq,vK] at hc;exact(m,Á,.inr ⟨hc.1.1,Á⟩)
   .rw[ag hc] at h';simp only[vL,hx] at h';cases h';exact(_,Á,.inl Á)
  |false=>
   simp only[vL,hx];by_cases hc:(m==NameKind.free&&j.kind== .function&&j.names.Q n==Α .cell)=true
   .rw[af hc] at h';simp only[vL,hx] at h';exact z h'
   .rw[ag hc] at h';simp only[vL,hx] at h';exact z h'
structure x4(N:LS)(sc scope:Scope)(own:List (Str×Nat)):Prop where
 kind:scope.kind=.function
 uniq:∀y∈scope.names,scope.names.Q y.1=Α y.2
 ix:∀p∈own,N[p.2]? =Α p.1
 free:∀y∈scope.names,y.2=.free->sc.names.Q y.1=Α .cell\/sc.names.Q y.1=Α .free
 own:∀y∈scope.names,y.2=.local\/y.2=.cell->y.1∈own.M (·.1)\/y.1∉N
def wipe(σ:St):LN->St
 |[]=>σ
 |v::vs=>(wipe σ vs).set v none
theorem RY(σ:St):∀vs:LN,(wipe σ vs).L=σ.L:=by
 intro vs;induction vs with
 |nil=>exact Á
 |cons v vs j=>
  ext wipe;rw[List.length_set,j]
theorem RZ{σ:St}{i:Nat}{x:V}{vs:LN}:ľ[i]? =Α Èq->σ[i]? =Α Èq/\i∉vs:=by
 induction vs with
 |nil=>exact @λh=>⟨h,by simp⟩
 |cons v vs z=>
  intro h;delta wipe at h;by_cases hi:v=i
  .subst hi;by_cases j:v<(wipe σ vs).L
   .rw[Zn j] at h;cases h
   .rw[zl (À j)] at h;cases h
  .rw[Zo hi] at h;let(m,h2):=z h;exact(m,by simp only[aV,not_or];exact(λe=>hi e.symm,h2))
abbrev Cx.gy(X:Cx)(s:Sh)(H:Hp)(scope:Scope)(F:Env)(fp:LA):Cx:={X with ib:=s,rh:=H,env:=F,outer:=X.stack,ex:=fp,fn:=λx=>scope.names.Q x==Α .cell,pn:=[],xe:=λ_ _=>False}
section
variable{X:Cx}{pins:bJ}{σ:St}{H:Hp}{s:Sh}
def acK{scope:Scope}{own:List (Str×Nat)}{fp:LA}(I:Ã H s)(ok:İ own)(hN:X.N.Nodup)(rD:∀b∈fp,Ņ H b/\b<s.Z):
  Inv (X.gy s H scope (compEnvC scope (cellsFrom Î scope.names (ŵ [])) s.Z X.env) fp) [] (wipe σ (own.M (·.2))) H {s with heap:=pushCells (s.o {cls:=.type "dict",data:=.dict #[]}) scope.names}:=by
 let Ew:∀y∈scope.names,y.2=.free->∃c,X.env.cells.Q y.1=Α c:=λy W e=>by
  rcases ok.free y W e with k|k
  .exact I.ok.has _ (.inl k)
  .exact I.ok.has _ (.inr k)
 generalize hcenv:compEnvC scope (cellsFrom Î scope.names (ŵ [])) s.Z X.env=F;let kp:∀b o,s.U b=Α o->(pushCells (s.o {cls:=.type "dict",data:=.dict #[]}) scope.names).I b=Α o:=λb o e=>Qg _ _ _ _ (cf _ e);let hL:F.locals=s.Z:=by rw[<-hcenv];rfl
 let gB:F.cells=cellsFrom Î scope.names (ŵ []):=by rw[<-hcenv];rfl
 let JH:F.scope=acC scope X.env.scope:=by rw[<-hcenv];rfl
 rw[<-mj s.H {cls:=.type "dict",data:=.dict #[]}] at gB;let cm:∀{y c},(y,c)∈jd X.env.cells scope.names []->X.env.cells.Q y=Α c/\c<s.Z:=λ{y c}O=>by
  rcases RV O with O|⟨j,rfl⟩
  .cases O
  .let(c,hc):=Ew _ j rfl;rw[hc];let(w,z):=I.cell _ _ hc;exact(Á,z.lt)
 let mem:∀{y c},F.cells.Q y=Α c->(X.env.cells.Q y=Α c/\c<s.Z)\/(s.Z+1<=c/\RU (pushCells (s.o {cls:=.type "dict",data:=.dict #[]}) scope.names) c none):=λ{y c}e=>by
  rw[gB] at e;rcases JG ϴ with O|⟨_,h2,h3⟩
  .exact .inl (cm O)
  .rw[mj] at h2;exact .inr ⟨h2,h3⟩
 let look:∀{y},scope.names.Q y=Α .free->∃c,F.cells.Q y=Α c/\X.env.cells.Q y=Α c:=λ{y}hl=>by
  let W:(y,NameKind.free)∈scope.names:=PySem.mem_of_lookup hl;let(c',J):=mem_lookup (RW (names:=scope.names) (n:=(s.o {cls:=.type "dict",data:=.dict #[]}).O) (acG (cells:=X.env.cells) (acc:=[]) W));rw[<-gB] at J;apply(c',J,?_);rw[gB] at J;rcases JG (PySem.mem_of_lookup J) with O|⟨j,_,_⟩
  .exact(cm O).1
  .let:=ok.uniq _ j;rw[hl] at this;cases this
 let okB:(X.gy s H scope F fp).Ok:=by
  refine⟨I.ok.mod,by show F.scope.kind=_;rw[JH];exact ok.kind,by show F.globals=_;rw[<-hcenv];exact I.ok.glob,by show F.builtins=_;rw[<-hcenv];exact I.ok.blt,by show s.Z<=F.locals;rw[hL];exact bw _,
   λy z c Y Z=>?_,λy W=>?_,λy c z e=>?_,I.ok.hd,I.ok.frames,.inl rfl,λb hb=>⟨?_,λy c e z=>?_⟩,I.bs,gS I.ok.nM I.sz,λb o e hb=>?_,λb hb z=>?_,I.stack,I.Eu⟩
  .let Y:F.cells.Q y=Α c:=Y;let Z:F.cells.Q z=Α c:=Z;rw[gB] at Y Z;apply acI (λp hp=>?_) (λy z c a b=>I.ok.inj y z c (cm a).1 (cm b).1) (PySem.mem_of_lookup Y) (PySem.mem_of_lookup Z);rw[mj];exact xF (cm (y:=p.1) (c:=p.2) hp).2
  .show ∃c,F.cells.Q y=Α c;let fG:∀k,F.kindOf y=Α k->(k=.cell\/k=.free)->∃c,F.cells.Q y=Α c:=λk hk je=>by
    delta Env.kindOf at hk;rw[JH] at hk;let(k',e,r):=RX hk;let:k'=.cell\/k'=.free:=by
     rcases r with rfl|⟨rfl,_⟩
     .exact je
     .exact .inr Á
    rcases this with rfl|rfl
    .let(c,O):=acH (n:=(s.o {cls:=.type "dict",data:=.dict #[]}).O) (acc:=ŵ []) ϴ;let(c',J):=mem_lookup O;exact(c',by rw[gB];exact J)
    .let(c,j,_):=look e;exact(c,j)
   rcases W with W|W
   .exact fG _ W ě
   .exact fG _ W Éc
  .let z:(scope.names.Q y==Α NameKind.cell)=true:=z;let z:scope.names.Q y=Α .cell:=by simpa using z
   let e:F.cells.Q y=Α c:=e;rw[gB] at e;rcases JG ϴ with O|⟨_,h2,_⟩
   .rcases RV O with O|⟨j,_⟩
    .cases O
    .let q:=ok.uniq _ j;rw[z] at q;cases q
   .rw[mj] at h2;exact Qh h2
  .show b≠F.locals;rw[hL];exact dX (rD b hb).2
  .let e:F.cells.Q y=Α c:=e;rcases mem e with ⟨j,_⟩|⟨j,_⟩
   .exact(rD b hb).1.2.2.2.2.1 y c j z
   .let h2:s.Z+1<=b:=by rw[<-z];exact j
    exact absurd (iD (rD b hb).2 (Qh h2)) (qT _)
  .rcases(rD b hb).1.2.2.2.1 with z|z
   .exact I.ok.zu b o e z
   .exact absurd (iD (cq e) (gS I.ok.nM z)) (qT _)
  .rcases aV.mp (I.BB b z) with z|z
   .exact(rD b hb).1.2.1 z
   .exact(rD b hb).1.2.2.1 z
 apply(okB,Á,I.bare,Un.kept kp,⟨λ_=>none,?_,λi y av Y Z U=>?_⟩,λy c e=>?_,?_,λy c e=>?_,λp hp=>?_,I.ax.kept kp,by rw[RY];exact I.len)
 .show Heap.Ns _ F.locals _;rw[hL];exact Heap.Ns.keeps (Heap.Ns.new ..) λb o e=>Qg _ _ _ _ e
 .let(Z,aU):=RZ Z;let j7:scope.names.Q y=Α .free/\(F.kindOf y=Α .cell\/F.kindOf y=Α .free):=by
   let fG:∀k,F.scope.names.Q y=Α k->k=.local\/k=.cell\/k=.free->scope.names.Q y=Α .free/\(F.kindOf y=Α .cell\/F.kindOf y=Α .free):=λk hk je=>by
    let R1:=hk;rw[JH] at hk;let(k',e,r):=RX hk;let no:¬(k'=.local\/k'=.cell):=λhh=>by
     rcases ok.own _ ϴ hh with J|J
     .let(p,hp,hpy):=b9.mp J;let U:=ok.ix p hp;let:p.1=y:=hpy;rw[this] at U;exact aU (b9.mpr ⟨p,hp,IX hN U Y⟩)
     .exact J (bY Y)
    rcases r with rfl|⟨rfl,rfl⟩
    .rcases je with rfl|rfl|rfl
     .exact absurd ě no
     .exact absurd Éc no
     .exact(e,.inr R1)
    .exact(e,.inl R1)
   let U:xM F.scope y:=U;rcases U with U|U|U
   .exact fG _ U ě
   .exact fG _ U (.inr ě)
   .exact fG _ U (.inr Éc)
  let(m,hn,hl):=I.loc;let acN:xM X.env.scope y:=(ok.free _ (PySem.mem_of_lookup j7.1) rfl).elim (λk=>.inr (.inl k)) (λk=>.inr (.inr k));let(w,r,q):=hl i y av Y Z acN;apply(w,r,.inr ⟨j7.2,?_⟩);let(c,j,h2):=look j7.1;rcases q with ⟨k,_⟩|⟨_,c',J,z⟩
  .let k:X.env.scope.names.Q y=Α .local:=k;rcases ok.free _ (PySem.mem_of_lookup j7.1) rfl with k'|k' <;> rw[show X.env.scope.names.Q y=_ from k'] at k <;> cases k
  .rw[h2] at J;cases J;exact(c,j,z.keeps kp)
 .let e:F.cells.Q y=Α c:=e;rcases mem e with ⟨j,_⟩|⟨_,z⟩
  .let(w,z):=I.cell y c j;exact(w,z.keeps kp)
  .exact(_,z)
 .show H F.locals=Β;rw[hL];exact I.ax.fresh (bw _)
 .let e:F.cells.Q y=Α c:=e;rcases mem e with ⟨j,_⟩|⟨j,_⟩
  .exact I.j4 y c j
  .exact I.ax.fresh (Qh j)
 .exact absurd (show p∈([]:bJ)++[] from hp) Ä
def acO(I:Ã H s)(j:H D=Α Ào)(hz:xs.L<sizeLine)(r:RelV y v)(h:∀s',Ã (upd H D (.lst (xs++[y]))) s'->Q .none s'):wpAny É X.A (call (.builtin "list.append") [.ref D,v]) Q E s:=by
 let(U,z,n,m,e):=I.ax D _ j;let W:=m.L;apply append_at (hsz:=by simp_all) e λh' O J=>?_;apply h {s with heap:=h'} (I.write (t':=s.toks) (by rw[j];trivial) ě (λb u F q=>(O.2 b F).R q) ⟨_,J⟩ ⟨by grind,z++[v],n+1,m.append (.cons r .nil),?_⟩);symm
def x5(X:Cx)(j:List Expr)(t:TT):Prop:=
 ∀(pins:bJ)(s:Sh)(σ:St)(H:Hp)(Q:Bool->Hp->Prop),Ã H s->t σ H Q->
  wpAny É X.A (forIn j true λc r=>if r=true then do let ok <-isTrue c X.env (eval c X.env);pure (ForInStep.yield ok) else pure (ForInStep.yield r)) Ây X.xe s
def BV:TT:=λ_ H Q=>Q true H
def eI:x5 X [] BV:=λ_ _ _ H _ I h=>wpAny_tests_nil ⟨H,I,h⟩
def qj(h:PT X c t):x5 X [c] t:=λpins s σ H Q I hw=>wpAny_tests_one Âu
end
def BW(h:Ś t Q Äd s)(j:∀a s,Q a s->Q' a s):Ś t Q' E s:=iU h j λ_ _ z=>False.elim z
def acP(I:Nat->Shared->Prop)(turn:∀n s,I n s->wpAny Ë A (pyNext it) (λr F=>match r with
   |none=>R (.ok .next) F
   |some v=>wpAny Ë A (letOwnedTupleGo DX it v) (λ_ j=>wpAny Ë A (assign DX env v) (λ_ W=>
     wpAny Ë A (forIn jE true λc r=>if r=true then do let ok <-isTrue c env (eval c env);pure (ForInStep.yield ok) else pure (ForInStep.yield r)) (λok J=>
      if ok=true then wpAny Ë A (eval k8 env) (λx Y=>
       wpAny Ë A (call (.builtin "list.append") [acc,x]) (λ_ Z=>∃m,m<n/\I m Z) (notedBy Ë A env λe s'=>R Ϯ s') Y) (notedBy Ë A env λe s'=>R Ϯ s') J
      else ∃m,m<n/\I m J) (notedBy Ë A env λe s'=>R Ϯ s') W) (notedBy Ë A env λe s'=>R Ϯ s') j) (notedBy Ë A env λe s'=>R Ϯ s') F) (notedBy Ë A env λe s'=>R Ϯ s') s)
  (n:Nat) (h:I n s):
  codeAny Ë A (.compLoop (.ListComp k8 [⟨DX,iter,jE,0⟩] scope pos) 0 it acc env) R s:=by
 apply codeAny_loop Á I (λn s hI=>?_) n h;show wpAny _ A ((compTurn (.ListComp k8 [⟨DX,iter,jE,0⟩] scope pos) 0 it acc env).onRaise (λx=>do noteFrame x env;theTreesLotGoes x)) _ _ s;apply wpAny_noted ?_;rw[compTurn_list];apply au (Qi (au (iU (turn n s hI) (λr F O=>?_) λ_ _ h'=>h')));cases r with
 |none=>exact aP O
 |some v=>
  apply au (iU O (λ_ j z=>?_) λ_ _ h'=>h');apply au (iU z (λ_ W h₂=>au (iU h₂ (λok J U=>?_) λ_ _ h'=>h')) λ_ _ h'=>h');cases ok with
  |false=>exact aP ⟨Á,U⟩
  |true=>
   exact au (au (iU U (λx Y h₄=>au (iU h₄ (λ_ Z h₅=>aP (aP ⟨Á,h₅⟩)) λ_ _ h'=>h')) λ_ _ h'=>h'))
inductive j8(D:Addr)(N:Hp->Prop)(y:V)(H:Hp):Prop
 |mk (acc:ay) (_:H D=Α (.lst acc)) (_:acc.L<sizeLine) (_:N (upd H D (.lst (acc++[y]))))
def BX(O:TI)(g:TG)(tt:TT)(te:TE)(vs:LN):TE:=λσ H Q=>O σ H λJ H1=>∀D,H1 D=Β->∃W:Nat->Nat->Hp->Prop,(∃m,W 0 m ď)/\∀i m H,W i m H->
 (J.stop i H/\Q ϔ H)\/(J.go i H/\∃Nx:Hp->Prop,(∀H',Nx H'->∃z,z<m/\W (i+1) z H')/\∀x H',J.nN i H x H'->g x ľ H' λσ2 F=>wipe σ2 vs=wipe σ vs/\tt σ2 F λb j=>
  if b=true then te σ2 j Æb else Nx j)
def R3{Ex:VP}{Eb:Cx->VP}(hc:X.calm=true) (hN:X.N.Nodup) (I:Ã H s) (hi:PI (X.iL Ex) tg iter wi) (ok:İ own)(hg:∀(s:Sh)(H:Hp)(C:Addr)(cl:eZ)(fp:LA),PG Ð tg g) (ht:∀(s:Sh)(H:Hp)(C:Addr)(cl:eZ)(fp:LA),x5 Ð jE tt)(he:∀(s:Sh)(H:Hp)(C:Addr)(cl:eZ)(fp:LA),PE ((X.gy s H scope Áa fp).iL (Eb Ð)) k8 te) (hs:∀x,foldedSetIterable iter X.env x=pure x)(h:BX wi g tt te (own.M (·.2)) σ H Q)(hRR:∀D C s' m H',Ã H' s'->Q ϔ H'->s'.H.Ns C m->Ņ H' C->compPost É X.A Ex use Qf ϔ C (.ok .next) s')(hX:∀s3 H3 cl fp D e s',Ã H3 s3->(∀b∈fp,Ņ H3 b/\b<s3.Z)->Eb (X.gy s3 H3 scope ħ fp) e s'->notedBy É X.A ħ (λe=>compPost É X.A Ex use Qf ϔ s3.Z Ϯ) e s'):
  wpAny É X.A (comprehension à scope X.env lS (newList []) false (eval iter X.env) use) Qf Ex s:=by
 let Ew:∀y∈scope.names,y.2=.free->∃c,X.env.cells.Q y.1=Α c:=λy hy e=>by
  rcases ok.free y hy e with k|k
  .exact I.ok.has _ (.inl k)
  .exact I.ok.has _ (.inr k)
 refine wpAny_comprehension_free (use:=use) Á hs (acE Ew) ok.kind (λy hy e=>by rw[ok.uniq y hy,e])
  (aL (hi pins s σ H _ (I.iL _) h) λxv s1 hx=>aL hx λJf s2 h2=>?_)
 let(it,fp,tn,J,H2,e,I2,T,EE,f2,q):=h2;let I2:=I2.mv;subst e;apply uB (acJ ?_) (by show 0<=sizeLine;decide);generalize hD:s2.Z=D;let hDn:H2 D=Β:=I2.ax.fresh (Bf hD);let(W,(m0,w0),turn):=q D hDn;generalize JI:({s2 with heap:=s2.o {cls:=.type "list",data:=.seq ([]:LV).toArray}}:Sh)=s3;let I3:Ã Ác s3:=by
  rw[<-JI];apply I2.laid (t':=s2.toks) Ås (Bf hD) ⟨du _,[],0,.nil,?_⟩;rw[<-hD];exact eY _ Á
 let h3:s3.H=s2.o {cls:=.type "list",data:=.seq ([]:LV).toArray}:=by rw[<-JI]
 let sz:∀b∈fp,b<s2.Z:=λb F=>by
  let(o,e,_):=T.obj _ _ EE b F;exact cq e
 let O:∀b∈fp,Ņ Ác b/\b<s3.Z:=λb F=>by
  let br:=sz b F;apply(⟨?_,(f2 b F).2⟩,by rw[h3,mj];exact xF br);rw[ao (by grind)];exact(f2 b F).1
 let EF:tn 0 s3.H:=T.keep _ _ _ EE λb _ o e=>by rw[h3];exact cf _ e
 let I4:=acK I3 ok hN O;let pg:=hg s3 Ác s3.Z é fp;let pt:=ht s3 Ác s3.Z é fp;let pe:=he s3 Ác s3.Z é fp;show codeAny _ _ (.compStart à 0 ũ ϔ (compEnvC scope é s3.Z X.env)) (compPost É X.A Ex use Qf ϔ s3.Z) {s3 with heap:=pushCells (s3.o {cls:=.type "dict",data:=.dict #[]}) scope.names};let R4:∀b∈fp,(Ác) b=Β:=λb F=>(O b F).1.1;generalize lF:compEnvC scope é s3.Z X.env=ce at I4 pg pt pe⊢;let cL:ce.locals=s3.Z:=by subst lF;rfl
 generalize hH3:upd H2 D ä=H3 at I3 I4 pg pt pe w0 R4 O;generalize hs4:({s3 with heap:=pushCells (s3.o {cls:=.type "dict",data:=.dict #[]}) scope.names}:Sh)=s4 at I4⊢;let R7:tn 0 s4.H:=T.keep _ _ _ EF λb _ o e=>by rw[<-hs4];exact Qg _ _ _ _ (cf _ e)
 let xQ:∀{σ':St}{H':Hp}{s':Sh},Inv ġ [] σ' H' s'->(∀b∈fp,H' b=Β)->∀b∈fp,mw ġ [] H' b:=λ{σ' H' s'}Y hn b F=>
  ⟨hn b F,(Y.ok.BA b F).1,Y.ok.zw b F,.inl F,λx c e=>(Y.ok.BA b F).2 x c e,λp hp=>absurd (show p∈([]:bJ)++[] from hp) Ä⟩
 let Zd:codeAny É X.A (.compLoop à 0 ũ ϔ ce) (compPost É X.A Ex use Qf ϔ s3.Z) s4:=by
  apply acP (λn s'=>∃i H',Inv ġ [] (wipe σ (own.M (·.2))) H' s'/\tn i s'.H/\(∀b∈fp,H' b=Β)/\W i n H') ?_ m0 ⟨0,H3,I4,R7,R4,w0⟩;rintro n s5 ⟨i,U,I5,zC,n5,w5⟩;rcases turn i n U w5 with ⟨stop,qq⟩|⟨go,Nx,hNx,step⟩
  .let td:=T.done ġ rfl rfl rfl hc i [] s5 _ U Äd I5 (xQ I5 n5) zC stop;apply BW td λr s6 ⟨hr,Z⟩=>?_;subst hr;let I7:Ã U s6:=I3.vS (ch:=fp) Z.os Z.base Z.ax Z.bare λb F=>⟨(O b F).1.2.2.2.1,(O b F).1.2.1,(O b F).1.2.2.2.2.1,(O b F).1.2.2.2.2.2⟩;let nC:U s3.Z=Β:=by
    let z:U ce.locals=Β:=Z.free;rw[cL] at z;exact z
   let(m,hn,_):=Z.loc;let hn:s6.H.Ns ce.locals m:=hn;rw[cL] at hn;exact hRR D s3.Z s6 m U I7 qq hn (I3.vX (bw _) nC)
  .let ti:=T.item ġ rfl rfl rfl hc i [] s5 _ U Äd I5 (xQ I5 n5) zC go;apply BW ti λr s6 ⟨u,hr,h6⟩=>?_;subst hr;apply BW h6 λ_ s7 ⟨x,H7,I7,r7,y7,JJ,n7⟩=>?_;let I7':=I7.pinned (xQ I7 n7) (T.obj _ _ JJ);apply BW (pg _ s7 _ H7 x u _ I7' r7 (step x H7 y7)) λ_ s8 ⟨σ8,H8,I8,ER,q8⟩=>?_;apply BW (pt _ s8 σ8 H8 _ I8 q8) λb s9 ⟨H9,I9,q9⟩=>?_;let fin:∀{s':Sh}{H':Hp},Inv ġ ([]++BJ fp s7.H) σ8 H' s'->Nx H'->∃m,m<n/\∃i H',Inv ġ [] (wipe σ (own.M (·.2))) H' s'/\tn i s'.H/\(∀b∈fp,H' b=Β)/\W i m H':=λ{s' H'}Y nx=>by
    let(m',hm,w'):=hNx H' nx;let R8:∀b∈fp,∀o,s7.U b=Α o->s'.U b=Α o/\H' b=Β:=λb F o e=>
     let z:=Y.pin (b,o) (uI _ (uI _ (Jh F e)))
     ⟨z.1,z.2.1⟩
    let hl:(wipe σ (own.M (·.2))).L=σ8.L:=by rw[<-ER,RY]
    apply(m',hm,i+1,H',(Y.ED (pins:=[])).weak hl (λj v e=>?_),T.keep _ _ _ JJ λb F o e=>(R8 b F o e).1,λb F=>?_,w')
    .rw[<-ER] at e;exact(RZ e).1
    .let(o,e,_):=T.obj _ _ JJ b F;exact(R8 b F o e).2
   cases b with
   |false=>
    simp only[Ip,Iq] at q9⊢;exact fin I9 q9
   |true=>
    simp only[Ec] at q9⊢;exact iU (pe _ s9 σ8 H9 _ (I9.iL _) q9) (λz o4 ⟨yv,ES,I10,r10,acc,acW,acX,nx⟩=>acO (X:=X.gy s3 H3 scope ce fp) I10.mv acW acX r10 λlG wk=>fin wk nx) λe o4 hz=>lF▸ hX s3 H3 _ fp D e o4 I3 O (lF▸ hz)
 exact codeAny_compStart_list Zd (T.self X.A 0 _ _ _ R7 Zd)
def eB(hc:X.calm=true)(Y:X.N.Nodup)(hi:PI X tg iter wi)(ok:İ own)(hg:∀(s:Sh)(H:Hp)(C:Addr)(cl:eZ)(fp:LA),PG Ð tg g) (ht:∀(s:Sh)(H:Hp)(C:Addr)(cl:eZ)(fp:LA),x5 Ð jE tt)(he:∀(s:Sh)(H:Hp)(C:Addr)(cl:eZ)(fp:LA),PE Ð k8 te) (hs:∀x,foldedSetIterable iter X.env x=pure x:=by intro _;rfl):
  PE X à (BX wi g tt te (own.M (·.2))):=by
 show Ö;rw[eval_ListComp];apply R3 (Ex:=X.xe) (Eb:=λ_ _ _=>False) hc Y I hi ok hg ht he hs h (λD C s' m H' j q hn f=>⟨m,hn,λqk sb=>?_⟩) λ_ _ _ _ _ _ _ _ _ z=>z.elim;let(F,J,f2,O,U,W):=f;exact(.ref D,H',j.turned (t':=s'.toks) (λb o Z e=>(sb.2 b Z).R e) F J O U W,Á,q)
def R9{Ex:VP}{Eb:Cx->VP}(hc:X.calm=true)(F:X.N.Nodup)(hy:X.N[i]? =Α y)(J:X.env.scope.names.Q y=Α .local)(O:swapsWith à (some (.Name y py)) wm.line X.env=pure true) (hi:PI (X.iL Ex) tg iter wi) (ok:İ own)(hg:∀(s:Sh)(H:Hp)(C:Addr)(cl:eZ)(fp:LA),PG Ð tg g) (ht:∀(s:Sh)(H:Hp)(C:Addr)(cl:eZ)(fp:LA),x5 Ð jE tt)(he:∀(s:Sh)(H:Hp)(C:Addr)(cl:eZ)(fp:LA),PE ((X.gy s H scope Áa fp).iL (Eb Ð)) k8 te) (hs:∀x,foldedSetIterable iter X.env x=pure x) (hX:∀{use:Option (Value->Sem Unit)}{Qf:VP}pins σ s3 H3 cl fp D e s',Ã H3 s3->(∀b∈fp,Ņ H3 b/\b<s3.Z)->Eb (X.gy s3 H3 scope ħ fp) e s'->notedBy É X.A ħ (λe=>compPost É X.A Ex use Qf ϔ s3.Z Ϯ) e s'):
  PS (X.iL Ex) (.Assign [.Name y py] à wm) (zB (BX wi g tt te (own.M (·.2))) (qf i)):=by
 intro pins s σ H D I h;rw[exec_Assign_Name_used _ _ _ _ O];apply au (Qi (au ?_));let h:=h;apply au (aL (R3 (X:=X) (Eb:=Eb) (Qf:=λ_ s'=>SP (X.iL Ex) pins D .next s') hc F I.mv hi ok hg ht he hs h (λL C s' m H' U q hn f=>?_) (hX pins σ)) λ_ s' hq=>aP (aP hq));apply wpAny_assign_Name (QQ (v:=V.ref L) U F hy (.inl J) Á (λs2 W ⟨a,sb,ha⟩=>?_) (.inr J));let(Y,Z,f2,f3,f4,f5):=f;let j:C≠a:=by
  grind
 apply(m,hn.sameBut sb j,λh3 z=>?_);exact(_,H',(W.turned (t':=s2.toks) (λb o hb e=>(z.2 b hb).R e) Y Z f3 f4 f5).iL _,q)
def uW(hc:X.calm=true)(m:X.N.Nodup)(U:X.N[i]? =Α y)(W:X.env.scope.names.Q y=Α .local)(j:swapsWith à (some (.Name y py)) wm.line X.env=pure true) (hi:PI X tg iter wi) (ok:İ own)(J:∀(s:Sh)(H:Hp)(C:Addr)(cl:eZ)(fp:LA),PG Ð tg g) (O:∀(s:Sh)(H:Hp)(C:Addr)(cl:eZ)(fp:LA),x5 Ð jE tt)(F:∀(s:Sh)(H:Hp)(C:Addr)(cl:eZ)(fp:LA),PE Ð k8 te) (hs:∀x,foldedSetIterable iter X.env x=pure x:=by intro _;rfl):
  PS X (.Assign [.Name y py] à wm) (zB (BX wi g tt te (own.M (·.2))) (qf i)):=by
 exact R9 (Ex:=X.xe) (Eb:=λ_ _ _=>False) hc m U W j hi ok J O F hs λ_ _ _ _ _ _ _ _ _ _ _ z=>z.elim
def ET{lo:Int}{n:Nat}{g:TG}{tt:TT}{te:TE}{vs:LN}{σ:St}{H1:Hp}{D:Addr}{Qd:Hp->Prop}(j:Nat->Hp->Prop)(U:j 0 ď)(hs:∀i H,i<n->j i H->g (.int (lo+i)) ľ H λσ2 F=>wipe σ2 vs=wipe σ vs/\tt σ2 F λb z=>
   if b=true then te σ2 z (j8 D (j (i+1))) else j (i+1) z) (hd:∀H,j n H->Qd H):
  ∃W:Nat->Nat->Hp->Prop,(∃m,W 0 m ď)/\∀i m H,W i m H->
   ((xP lo n).stop i H/\Qd H)\/((xP lo n).go i H/\∃Nx:Hp->Prop,(∀H',Nx H'->∃O,O<m/\W (i+1) O H')/\∀x H',(xP lo n).nN i H x H'->g x ľ H' λσ2 F=>wipe σ2 vs=wipe σ vs/\tt σ2 F λb z=>
    if b=true then te σ2 z Æb else Nx z):=by
 apply(λi m H=>m=n-i/\i<=n/\j i H,⟨n,by simp,du _,U⟩,?_);rintro i m H ⟨rfl,hi,p⟩;by_cases J:i<n
 .apply .inr ⟨J,j (i+1),λH' Y=>⟨n-(i+1),by omega,rfl,J,Y⟩,λx H' y=>?_⟩;let(e,y):=y;symm
 .let e:i=n:=by omega
  subst e;exact .inl ⟨bw _,hd H p⟩
def gC{K:FR}{a:Addr}{xs:ay}{g:TG}{tt:TT}{te:TE}{vs:LN}{σ:St}{H1:Hp}{D:Addr}{Qd:Hp->Prop}(j:Nat->Hp->Prop)(U:j 0 ď)(Y:∀i H,i<=xs.L->j i H->ã a xs)(hs:∀i x H,xs[i]? =Α x->j i H->g x ľ H λσ2 F=>wipe σ2 vs=wipe σ vs/\tt σ2 F λb z=>
   if b=true then te σ2 z (j8 D (j (i+1))) else j (i+1) z) (hd:∀H,j xs.L H->Qd H):
  ∃W:Nat->Nat->Hp->Prop,(∃m,W 0 m ď)/\∀i m H,W i m H->
   ((vY K a).stop i H/\Qd H)\/((vY K a).go i H/\∃Nx:Hp->Prop,(∀H',Nx H'->∃O,O<m/\W (i+1) O H')/\∀x H',(vY K a).nN i H x H'->g x ľ H' λσ2 F=>wipe σ2 vs=wipe σ vs/\tt σ2 F λb z=>
    if b=true then te σ2 z Æb else Nx z):=by
 apply(λi m H=>m=xs.L-i/\i<=xs.L/\j i H,⟨xs.L,by simp,du _,U⟩,?_);rintro i m H ⟨rfl,hi,p⟩;let q:=Y i H hi p;by_cases J:i<xs.L
 .apply .inr ⟨⟨xs,xs[i],q,by simp[J]⟩,j (i+1),λH' Z=>⟨xs.L-(i+1),by omega,rfl,J,Z⟩,λx H' y=>?_⟩;let(e,y):=y;subst e;exact hs i x _ (y xs q) p
 .let e:i=xs.L:=by omega
  subst e;exact .inl ⟨⟨xs,q,bw _⟩,hd H p⟩
def Sa(N:LS)(j scope:Scope)(own:List (Str×Nat)):Bool:=
 (match scope.kind with|.function=>true|_=>false)&&(scope.names.all λy=>decide (scope.names.Q y.1=Α y.2))&&(own.all λp=>decide (N[p.2]? =Α p.1))&&
  (scope.names.all λy=>match y.2 with
   |.free=>(match j.names.Q y.1 with|some .cell=>true|some .free=>true|_=>false)
   |.local=>decide (y.1∈own.M (·.1))||decide (y.1∉N)
   |.cell=>decide (y.1∈own.M (·.1))||decide (y.1∉N)
   |_=>true)
def c9{N:LS}{F scope:Scope}{own:List (Str×Nat)}(h:Sa N F scope own=true):x4 N F scope own:=by
 delta Sa at h;simp only[jq,lV,nD] at h;let(((m,h2),J),z):=h;apply(?_,h2,J,λy j e=>?_,λy j e=>?_)
 .split at m
  .assumption
  .cases m
 .let q:=z y j;simp only[e] at q;split at q <;> first|exact .inl (by assumption)|exact .inr (by assumption)|cases q
 .let q:=z y j;rcases e with e|e <;> (simp only[e,Zz,nD] at q;exact q)
section
variable{κ:Type}[DecidableEq κ]
def gi(kvs:List (κ×V))(k:κ):Option V:=(kvs.find? λkv=>decide (kv.1=k)).M (·.2)
def putK(kvs:List (κ×V))(k:κ)(v:V):List (κ×V):=
 if (kvs.any λkv=>decide (kv.1=k))=true then kvs.M (λkv=>if kv.1=k then (kv.1,v) else kv) else kvs++[(k,v)]
def rE{p:κ×V}{r:List (κ×V)}{k:κ}(e:p.1=k):gi (p::r) k=Α p.2:=by simp[gi,k9,e]
def rF{p:κ×V}{r:List (κ×V)}{k:κ}(e:¬p.1=k):gi (p::r) k=gi r k:=by simp[gi,k9,e]
theorem JK(k:κ):∀kvs:List (κ×V),(kvs.any λkv=>decide (kv.1=k))=(gi kvs k).isSome:=by
 intro kvs;induction kvs with
 |nil=>exact Á
 |cons p r j=>
  rw[uJ];by_cases e:p.1=k
  .simp only[rE e,eN e,Bool.true_or,arF]
  .rw[rF e,fZ e,Qj];exact j
theorem ac0(k j:κ)(y:V):∀kvs:List (κ×V),gi (kvs.M λkv=>if kv.1=k then (kv.1,y) else kv) j=(gi kvs j).M λx=>if j=k then y else x:=by
 intro kvs;induction kvs with
 |nil=>exact Á
 |cons p r m=>
  let m:=m;rw[a8];by_cases h:p.1=k
  .rw[af h];by_cases e:p.1=j
   .rw[rE (p:=(p.1,y)) e,rE e,Ir,af (e.symm.R h)]
   .rw[rF (p:=(p.1,y)) e,rF e,m]
  .rw[ag h];by_cases e:p.1=j
   .rw[rE (p:=p) e,rE e,Ir,ag (λz=>h Èb)]
   .rw[rF (p:=p) e,rF e,m]
theorem ac1(k j:κ)(y:V):∀kvs:List (κ×V),gi kvs k=Β->gi (kvs++[(k,y)]) j=if j=k then some y else gi kvs j:=by
 intro kvs;induction kvs with
 |nil=>
  intro _;by_cases e:k=j
  .rw[af e.symm];exact rE (p:=(k,y)) e
  .rw[ag (λz=>e z.symm)];exact rF (p:=(k,y)) e
 |cons p r F=>
  intro m;rw[List.cons_append];let hk:¬p.1=k:=λz=>by rw[rE z] at m;cases m
  rw[rF hk] at m;let F:=F m;by_cases e:p.1=j
  .rw[rE e,rE e,ag (λz=>hk Èb)]
  .rw[rF e,rF e,F]
def ac2(kvs:List (κ×V))(k j:κ)(y:V):gi (Œ y) j=if j=k then some y else gi kvs j:=by
 ext putK;by_cases a:(kvs.any λkv=>decide (kv.1=k))=true
 .rw[af a,ac0];rw[JK] at a;by_cases e:j=k
  .let(x,m):=Ij.mp a;symm
  .symm
 .rw[ag a];apply ac1 k j y kvs ?_;rw[JK] at a;symm
def BZ(kvs:List (κ×V))(k:κ)(v:V):(Œ v).L<=kvs.L+1:=by
 ext putK;grind
theorem j3.JL(r:j3 o u):o.isSome=u.isSome:=by
 cases o with
 |none=>cases u with
  |none=>rfl
  |some _=>exact(show False from r).elim
 |some _=>cases u with
  |none=>exact(show False from r).elim
  |some _=>rfl
theorem j3.getD(r:j3 o u)(j:RelV d d'):RelV (o.D d) (u.D d'):=by
 cases o with
 |none=>cases u with
  |none=>exact j
  |some _=>exact(show False from r).elim
 |some _=>cases u with
  |none=>exact(show False from r).elim
  |some _=>exact r
theorem KV.val{kvs:List (κ×V)}{vs:List (κ×Value)}(r:KV kvs vs)(k:κ):j3 (gi kvs k) (valueAt vs k):=by
 delta KV at r;induction r with
 |nil=>exact True.intro
 | @cons p q ps qs h t ih=>
  let(m,h2):=h;by_cases e:p.1=k
  .let j:q.1=k:=m.symm.R e;let b:valueAt (q::qs) k=Α q.2:=by simp[valueAt,k9,j]
   rw[rE e,b];exact h2
  .let j:¬q.1=k:=λz=>e (m.R z);let b:valueAt (q::qs) k=valueAt qs k:=by simp[valueAt,k9,j]
   rw[rF e,b];exact ih
theorem KV.any(r:KV kvs vs)(k:κ):(kvs.any λkv=>decide (kv.1=k))=vs.any λkv=>decide (kv.1=k):=by
 delta KV at r;induction r with
 |nil=>rfl
 |cons h t j=>symm
def KV.JN(r:KV kvs vs)(k:κ)(j:RelV y u):
  KV (kvs.M λkv=>if kv.1=k then (kv.1,y) else kv) (vs.M λkv=>if kv.1=k then (kv.1,u) else kv):=by
 delta KV at r⊢;induction r with
 |nil=>exact .nil
 | @cons p q ps qs h t ih=>
  rw[a8,a8];apply .cons ?_ ih;lia
def KV.put(r:KV kvs vs)(k:κ)(j:RelV y u):KV (Œ y) (stored vs k u):=by
 ext putK stored;rw[r.any k];by_cases e:(vs.any λkv=>decide (kv.1=k))=true
 .rw[af e,af e];exact r.JN k j
 .rw[ag e,ag e];exact Paired.snoc r ⟨Á,j⟩
def KV.length{kvs:List (κ×V)}{vs:List (κ×Value)}(r:KV kvs vs):kvs.L=vs.L:=Paired.length r
end
theorem wo(r:RelV (kV k) u):(e9 P w).is k u=true:=by
 cases k with
 |inl i=>let(t,e):=(show ∃t,u=Value.int i t from r);subst e;exact aaP P w i t
 |inr x=>let(t,e):=(show ∃t,u=Value.str x t from r);subst e;exact aaQ P w x t
theorem ac3{P:Pg}{w:Wd}{ks:d9}:∀{U:LV},a9 (ks.M kV) U->ItemsAre Âv ks U:=by
 induction ks with
 |nil=>
  intro _ r;rw[mr] at r;cases r;exact .nil
 |cons k ks j=>
  intro _ r;rw[a8] at r;cases r with
  |cons h t=>exact .cons (wo h) (j t)
abbrev KT(H:Hp):List (d9×V)->List (d9×Addr×Value)->Prop:=Paired λp q=>p.1=q.1/\H q.2.1=Α (.tup (p.1.M kV))/\RelV p.2 q.2.2
theorem KT.val{H:Hp}{kvs:List (d9×V)}{xs:List (d9×Addr×Value)}(r:KT H kvs xs)(k:d9):j3 (gi kvs k) ((atKey xs k).M (·.2)):=by
 induction r with
 |nil=>exact True.intro
 | @cons p q ps qs h t ih=>
  let(m,_,h2):=h;by_cases e:p.1=k
  .let j:q.1=k:=m.symm.R e;let b:atKey (q::qs) k=Α q.2:=by simp[atKey,k9,j]
   rw[rE e,b];exact h2
  .let j:¬q.1=k:=λz=>e (m.R z);let b:atKey (q::qs) k=atKey qs k:=by simp[atKey,k9,j]
   rw[rF e,b];exact ih
def KT.JN{H:Hp}{kvs:List (d9×V)}{xs:List (d9×Addr×Value)}(r:KT H kvs xs)(k:d9){y:V}{u:Value}(F:RelV y u):
  KT H (kvs.M λkv=>if kv.1=k then (kv.1,y) else kv) (xs.M (putAt k u)):=by
 induction r with
 |nil=>exact .nil
 | @cons p q ps qs h t ih=>
  rw[a8,a8];apply .cons ?_ ih;let(j,h2,m):=h;ext putAt;by_cases e:p.1=k
  .rw[af e,af (j.symm.R e)];exact(j,h2,F)
  .rw[ag e,ag (λz=>e (j.R z))];exact(j,h2,m)
def KT.put(r:KT H kvs xs)(k:d9)(m:H b=Α Ân)(j:RelV y u):
  KT H (Œ y) (storedH xs k b u):=by
 let e:(kvs.any λkv=>decide (kv.1=k))=(atKey xs k).isSome:=by
  rw[JK,(r.val k).JL,Ee]
 ext putK storedH;rw[e];by_cases q:(atKey xs k).isSome=true
 .rw[af q,af q];exact r.JN k j
 .rw[ag q,ag q];exact Paired.snoc r ⟨Á,m,j⟩
def KT.keeps(r:KT H kvs xs)(j:∀b ys,H b=Α Æe->H' b=Α Æe):KT H' kvs xs:=
 Paired.nF r λ_ _ z=>⟨z.1,j _ _ z.2.1,z.2.2⟩
def Sb(ok:Ħ h)(e:Rd H a u):fO P w H h a u:=e.ok ok
def x6(ok:Ħ h)(e:Rd H a ē):kvs.L<=sizeLine/\(a==sysModules)=false/\∃vs,KV kvs vs/\h.DictOf Âv a vs:=
 show fO P w H h a ē from Sb ok e
def EU(ok:Ħ h)(e:H a=Α ē):kvs.L<=sizeLine/\(a==sysModules)=false/\∃vs,KV kvs vs/\h.DictOf Âv a vs:=x6 ok (.inl e)
def x8{ks:d9}(ok:Ħ h)(e:H a=Α (.tup (ks.M kV))):(tupleKind Âv).is h ks a:=by
 let(_,j,r,o,m,h2,n,z):=(show fO P w H h a (.tup (ks.M kV)) from ok a _ e);exact(o,j.toArray,n,m,h2,z,by simpa using ac3 r)
def x9{kvs:List (d9×V)}(ok:Ħ h)(e:Rd H a Ãf):kvs.L<=sizeLine/\(a==sysModules)=false/\
  ∃xs,KT H kvs xs/\h.DictOfH Çp a xs:=by
 let(z,y,xs,r,o,es,ep,F,h2,J,O,U):=(show fO P w H h a Ãf from Sb ok e);apply(z,y,xs,r,o,es,ep,F,h2,J,O,λx j=>?_,U);let all:∀{l:List (d9×V)}{m:List (d9×Addr×Value)},KT H l m->∀x∈m,(tupleKind Âv).is h x.1 x.2.1:=by
  intro l m q;induction q with
  |nil=>intro x j;exact nomatch j
  | @cons p q ps qs hq t ih=>
   intro x j;rcases aV.mp j with e|j
   .subst e;exact x8 ok (by rw[<-hq.1];exact hq.2.1)
   .exact ih x j
 exact all r x j
def ac4(ok:Ħ h)(e:H a=Α Ãf):kvs.L<=sizeLine/\(a==sysModules)=false/\
  ∃xs,KT H kvs xs/\h.DictOfH Çp a xs:=x9 ok (.inl e)
def j9(H:Hp)(a:Addr)(y:V)(r:Option V):Prop:=
 (∃kvs k,Rd H a ē/\y=kV k/\r=gi kvs k)\/∃kvs k b,Rd H a Ãf/\y=.ref b/\H b=Α Ân/\r=gi kvs k
def ya(H:Hp)(a:Addr)(y v:V)(H':Hp):Prop:=
 (∃kvs k,H a=Α ē/\y=kV k/\kvs.L<sizeLine/\H'=upd H a (.dK (Œ v)))\/
 ∃kvs k b,H a=Α Ãf/\y=.ref b/\H b=Α Ân/\kvs.L<sizeLine/\H'=upd H a (.dT (Œ v))
def j9.k{H:Hp}{a:Addr}{kvs:List (Key×V)}{k:Key}(e:H a=Α ē):j9 H a (kV k) (gi kvs k):=.inl ⟨kvs,k,.inl e,rfl,rfl⟩
def j9.t{H:Hp}{a b:Addr}{kvs:List (d9×V)}{k:d9}(e:H a=Α Ãf)(j:H b=Α Ân):j9 H a (.ref b) (gi kvs k):=.inr ⟨kvs,k,b,.inl e,rfl,j,rfl⟩
def ya.k{H:Hp}{a:Addr}{kvs:List (Key×V)}{k:Key}{v:V}(e:H a=Α ē)(j:kvs.L<sizeLine):ya H a (kV k) v (Ů (.dK (Œ v))):=.inl ⟨kvs,k,e,rfl,j,rfl⟩
section
variable{X:Cx}{pins:bJ}{σ:St}{H:Hp}{s:Sh}{a:Addr}{y v:V}{u r:Value}{o:Option V}{A:Around}{E:VP}
def Inv.big(I:Ã H s):sysModules<s.Z:=by
 let h:mainGlobals<s.Z:=(I.mod.glob.keeps I.bk).lt;exact Bk Ù h
def ac5(Z:A.units+1<cLine)(I:Ã H s)(g:j9 H a y Ãq)(O:RelV y u)(h:∀W s',Ã H s'->RelV v W->Q W s'):
  wpAny É A (getItem ā u) Q E s:=by
 rcases g with ⟨kvs,k,e,j,l⟩|⟨kvs,k,b,e,j,U,l⟩
 .subst j;let(z,hd,vs,F,dd):=x6 I.ax e;let(W,m,J):=j3.some_of (v:=v) (o:=valueAt vs k) (by rw[l];exact F.val k);exact wpAny_getItem_of (wo O) dd.mapOf m (h W _ (I.tok _) J)
 .subst j;cases (show u=Value.ref b from O);let(z,hd,xs,F,dd):=x9 I.ax e;let(W,m,J):=j3.some_of (v:=v) (o:=(atKey xs k).M (·.2)) (by rw[l];exact F.val k);let(p,Y,qZ):=zf.mp m;apply wpAny_getItem_heap (Ef Z) (x8 I.ax U) dd Y ?_;rw[qZ];exact h W _ (I.tok _) J
def ac6(O:A.units+1<cLine)(I:Ã H s)(g:j9 H a y o)(m:RelV y u)(h:∀s',Ã H s'->Q (.bool (!o.isSome)) s'):
  wpAny É A (compareOp .NotIn u ā) Q E s:=by
 rcases g with ⟨kvs,k,e,j,l⟩|⟨kvs,k,b,e,j,J,l⟩
 .subst j;let(z,hd,vs,F,dd):=x6 I.ax e;apply wpAny_notIn_of (wo m) hd dd.mapOf ?_;rw[<-(F.val k).JL,<-l];exact h _ (I.tok _)
 .subst j;cases (show u=Value.ref b from m);let(z,hd,xs,F,dd):=x9 I.ax e;apply wpAny_notIn_heap (Ef O) (x8 I.ax J) hd dd ?_;let q:=(F.val k).JL;rw[Ee] at q;rw[<-q,<-l];exact h _ (I.tok _)
def JO{h':Heap}{t':Nat}{O:HO}(I:Ã H s)(F:uN (H a))(hs:Heap.SameBut a s.H h')(m:∃q,h'.I a=Α q)(new:Àh (Ů O) h' a O):
  Inv X pins σ (Ů O) {s with heap:=h',toks:=t'}:=
 I.write (x:=a) (e:=a) F (.inl rfl) (λb q j z=>(hs.2 b j).R z) m new
def Sd(z:kvs.L<=sizeLine)(hd:(a==sysModules)=false)(F:KV kvs vs)(dd:h'.DictOf Âv a vs):
  fO P w H' h' a ē:=⟨z,hd,vs,F,dd⟩
def ac7{H':Hp}{Q:Unit->Shared->Prop}(hu:A.units+1<cLine)(I:Ã H s)(g:ya H a y v H')(ry:RelV y u)(Z:RelV v r)(h:∀s',Ã H' s'->Q () s'):
  wpAny É A (setItem ā u r) Q E s:=by
 rcases g with ⟨kvs,k,e,O,l,J⟩|⟨kvs,k,b,e,O,W,l,J⟩
 .subst O J;let(z,hd,vs,F,dd):=EU I.ax e;let hz:vs.L<=sizeLine:=by rw[<-F.L];exact z
  let U:(Œ v).L<=sizeLine:=by let:=BZ kvs k v;lia
  apply wpAny_setItem_pairs (hsz:=hz) (wo ry) dd λh' m hs=>h _ ?_;let he:∃q,h'.I a=Α q:=let ⟨q,_,_,j,_⟩:=m;⟨q,j⟩;exact JO I (by rw[e];exact True.intro) hs he (Sd U hd (F.put k Z) m)
 .subst O J;cases (show u=Value.ref b from ry);let(z,hd,xs,F,dd):=ac4 I.ax e;let hz:xs.L<=sizeLine:=by rw[<-Paired.length F];exact z
  let U:(Œ v).L<=sizeLine:=by let:=BZ kvs k v;lia
  apply wpAny_setItem_heap (hsz:=hz) (Ef hu) (x8 I.ax W) dd λh' m hs=>h _ ?_;let(q,es,ep,j,h2,h3,h4,_,h5):=m;apply JO I (by rw[e];exact True.intro) hs ⟨q,j⟩ ⟨U,hd,_,(F.put k W Z).keeps λc ys Y=>?_,q,es,ep,j,h2,h3,h4,h5⟩;rw[ao (QO Y e (λz=>nomatch z))];exact Y
end
section
variable{X:Cx}{pins:bJ}{σ:St}{H:Hp}{s:Sh}{a:Addr}{kvs:List (Key×V)}{k:Key}{u:Value}{A:Around}{E:VP}
end
def Se(i:Expr):Prop:=∀O iv,subscripted i false O iv=operate [O,iv] (getItem O iv)
def ac8{prog:Pg}{w:Wd}{A:Around}{E:VP}{s:Sh}{env:Env}{J m:Expr}{pos:Pos}{T id:String}{Q:VP}(W:typeLookup (.type T) "__getitem__"=pure (some ϖ)) (hs:Se m)(h:wpAny Ë A (eval J env) (λo O=>wpAny Ë A (eval m env) (λi j=>j.TypeIs o T/\wpAny Ë A (getItem o i) Q E j) E O) E s):
  wpAny Ë A (eval (.Subscript J m pos) env) Q E s:=by
 apply Subscript_ (iU h (λo O Y=>iU Y (λi j z=>?_) λ_ _ x=>x) λ_ _ x=>x);let(F,z):=z;ext subscriptTail;apply au ?_;rw[getitemInPython_of_ne F.not_modules];apply au (wpAny_specialOf F W ?_);let fin:wpAny Ë A (subscripted m false o i) (λr U=>wpAny Ë A (letTemporaryGo J o r >>= λ_=>pure r) Q E U) E j:=by
  rw[hs o i];exact wpAny_operating (iU z (λr U Z=>au (wpAny_letTemporaryGo (aP Z))) λ_ _ x=>x)
 first
  |exact aP (au fin)
  |exact au (aP (au fin))
  |exact au fin
def ac9(I:Ã H s)(g:j9 H a y o):s.TypeIs ā "dict":=by
 rcases g with ⟨kvs,k,e,_,_⟩|⟨kvs,k,b,e,_,_,_⟩
 .let(_,_,vs,_,dd):=x6 I.ax e;exact dd.typeIs
 .let(_,_,xs,_,dd):=x9 I.ax e;exact dd.typeIs
def Sf(td m:TE):TE:=λσ H Q=>td σ H λx H1=>m σ H1 λy j=>∃a v,x=.ref a/\j9 j a y Ãq/\Q v j
def ada(m td:TE):TE:=λσ H Q=>m σ H λy H1=>td σ H1 λx j=>∃a o,x=.ref a/\j9 j a y o/\Q (.bl (!o.isSome)) j
def adb(td J F:TE):TS:=λD σ H=>F σ H λv H1=>td σ H1 λx m=>J σ m λy z=>∃a j,x=.ref a/\ya z a y v j/\D.nx σ j
def Sg(U:X.A.units+1<cLine)(O:PE X o td)(hi:PE X i ty)(hs:Se i):PE X (.Subscript o i pos) (Sf td ty):=by
 show Ö;apply ac8 PySem.F.slot_dict_getitem.lookup hs (aL (O pins s σ H _ I h) λu s1 ⟨x,H1,z,rx,Y⟩=>aL (hi pins s1 σ H1 _ z Y) λiv s2 ⟨y,m,j,ry,a,v,ex,g,Z⟩=>?_);subst ex;obtain rfl:u=Value.ref a:=rx;exact(ac9 j g,ac5 U j g ry λw' s3 J W=>⟨v,m,J,W,Z⟩)
def ade(O:X.A.units+1<cLine)(hi:PE X i ty)(J:PE X o td):PC X .NotIn i o (ada ty td):=by
 show Ö;apply aL (hi pins s σ H _ I h) λiv s1 ⟨y,H1,m,ry,W⟩=>aL (J pins s1 σ H1 _ m W) λu s2 ⟨x,j,z,Z,a,U,ex,g,Y⟩=>?_;subst ex;obtain rfl:u=Value.ref a:=Z;exact ac6 O z g ry λs3 F=>⟨.bl (!U.isSome),j,F,Á,Y⟩
def JP(W:X.A.units+1<cLine)(U:PE X o td)(hi:PE X i ty)(Y:PE X jn tv)(hs:swapsWith jn (some (.Subscript o i lS)) pos.line X.env=pure false):
  PS X (.Assign [.Subscript o i lS] jn pos) (adb td ty tv):=by
 intro pins s σ H D I h;apply wpAny_Assign_Subscript (aL (Y pins s σ H _ I h) λr s1 ⟨v,H1,z,rv,Z⟩=>aL (U pins s1 σ H1 _ z Z) λu s2 ⟨x,j,F,rx,q2⟩=>aL (hi pins s2 σ j _ F q2) λiv s3 ⟨y,H3,J,ry,a,m,ex,g,q3⟩=>?_) hs;subst ex;obtain rfl:u=Value.ref a:=rx;exact ac7 W J g ry rv λs4 O=>⟨σ,m,O,q3⟩
def adf{P:Pg}{w:Wd}{H:Hp}(h:Heap)(j:sysModules<h.O):fO P w H (h.push {cls:=.type "dict",data:=.dict #[]}) h.O Àz:=
 ⟨du _,xD.mpr (dj (dX j)),[],.nil,ZA h⟩
def adg:TE:=λ_ H Q=>∀p,H p=Β->Q ĝ (upd H p Àz)
def EV:PE X (.Dict [] [] pos) adg:=λpins s σ H Q I h=>
 wpAny_Dict_empty ⟨.ref s.Z,_,I.laid (a:=s.Z) (o:=.dK []) (t':=s.toks) (λ_ _ q=>cf _ q) (bw _) (adf s.H I.big),rfl,h _ ğ⟩
def uX(kvs j:List (Key×V)):List (Key×V):=j.foldl (λacc kv=>putK acc kv.1 kv.2) kvs
theorem KV.merge:∀{j:List (Key×V)}{rs:List (Key×Value)}{kvs:List (Key×V)}{vs:List (Key×Value)},KV j rs->KV kvs vs->KV (uX kvs j) (merged vs rs):=by
 intro j rs kvs vs r;delta KV at r;induction r generalizing kvs vs with
 |nil=>intro q;exact q
 | @cons p q ps qs h t ih=>
  intro m;let e:KV (putK kvs p.1 p.2) (stored vs q.1 q.2):=by
   let:=m.put p.1 h.2;symm
  exact ih e
theorem adh:∀(j kvs:List (Key×V)),(uX kvs j).L<=kvs.L+j.L:=by
 intro j;induction j with
 |nil=>
  intro kvs;show kvs.L<=kvs.L+0;symm
 |cons p r m=>
  intro kvs;let z:=m (putK kvs p.1 p.2);let h2:=BZ kvs p.1 p.2;show(uX (putK kvs p.1 p.2) r).L<=_;rw[df];lia
structure M1(X:Cx)(o:Expr)(m:Str)(i4:Pos)(e:Expr)(gh:Pos):Prop where
 base:attributeBase o m X.env Är=eval o X.env
 dh:((backTo gh (starEach [e] X.env)).all (λx=>!x.1)&&(backToKw gh Àa).all (λx=>x.1.isSome)
  &&decide (([e]:List Expr).L+([]:List Keyword).L+(if ([]:List Keyword).isEmpty then 0 else 1)<30))=true
 line:(i4.endLine==gh.line)=true
 trees:backTo gh (starEach [e] X.env)=[(false,eval e X.env)]
structure M2(X:Cx)(o:Expr)(m:Str)(i4:Pos)(e f:Expr)(gh:Pos):Prop where
 base:attributeBase o m X.env Är=eval o X.env
 dh:((backTo gh (starEach [e,f] X.env)).all (λx=>!x.1)&&(backToKw gh Àa).all (λx=>x.1.isSome)
  &&decide (([e,f]:List Expr).L+([]:List Keyword).L+(if ([]:List Keyword).isEmpty then 0 else 1)<30))=true
 line:(i4.endLine==gh.line)=true
 trees:backTo gh (starEach [e,f] X.env)=[(false,eval e X.env),(false,eval f X.env)]
def EW(H:Hp)(a:Addr):Prop:=(∃kvs,Rd H a ē)\/∃kvs,Rd H a Ãf
def JQ(I:Ã H s)(d:EW H a):
  s.TypeIs ā "dict"/\(∀b,Value.ref a=.ref b->∃O,s.U b=Α O/\O.dict=Β)/\(a==sysModules)=false:=by
 rcases d with ⟨kvs,e⟩|⟨kvs,e⟩
 .let(_,hd,vs,_,dd):=x6 I.ax e;apply(dd.typeIs,λb q=>?_,hd);cases q;let(O,_,_,j,h2,_):=dd;exact(O,j,h2.2.1)
 .let(_,hd,xs,_,dd):=x9 I.ax e;apply(dd.typeIs,λb q=>?_,hd);cases q;let(O,_,_,j,h2,_):=dd;exact(O,j,h2.2.1)
section
variable{X:Cx}{pins:bJ}{σ:St}{H:Hp}{s:Sh}{a:Addr}{y d:V}{u r:Value}{o:Option V}{A:Around}{E:VP}
def adi(U:A.units+1<cLine)(I:Ã H s)(g:j9 H a y o)(J:RelV y u)(h:∀W s',Ã H s'->RelV (o.D .aK) W->Q W s'):
  wpAny É A (call (.builtin "dict.get") [.ref a,u]) Q E s:=by
 rcases g with ⟨kvs,k,e,j,l⟩|⟨kvs,k,b,e,j,O,l⟩
 .subst j;let(z,hd,vs,m,dd):=x6 I.ax e;apply Eg PySem.F.slot_dict_get dd.typeIs PySem.F.entry_dict_get (PySem.F.args_dict_get_2 _ _) (meets_dict_get ĉ a (wo J) hd) ⟨_,dd.mapOf,h _ _ (I.tok _) ?_⟩;rw[l];exact(m.val k).D Á
 .subst j;cases (show u=Value.ref b from J);let(z,hd,xs,m,dd):=x9 I.ax e;apply Eg PySem.F.slot_dict_get dd.typeIs PySem.F.entry_dict_get (PySem.F.args_dict_get_2 _ _) (meetsH_dict_get Èp a b hd) ⟨Ef U,k,xs,x8 I.ax O,dd,h _ _ (I.tok _) ?_⟩;rw[l];exact(m.val k).D Á
def adj(Y:A.units+1<cLine)(I:Ã H s)(g:j9 H a y o)(O:RelV y u)(J:RelV d r)(h:∀W s',Ã H s'->RelV (o.D d) W->Q W s'):
  wpAny É A (call (.builtin "dict.get") [.ref a,u,r]) Q E s:=by
 rcases g with ⟨kvs,k,e,j,l⟩|⟨kvs,k,b,e,j,U,l⟩
 .subst j;let(z,hd,vs,m,dd):=x6 I.ax e;apply Eg PySem.F.slot_dict_get dd.typeIs PySem.F.entry_dict_get (PySem.F.args_dict_get_3 _ _ _) (meets_dict_get_default ĉ a (wo O) hd r) ⟨_,dd.mapOf,h _ _ (I.tok _) ?_⟩;rw[l];exact(m.val k).D J
 .subst j;cases (show u=Value.ref b from O);let(z,hd,xs,m,dd):=x9 I.ax e;apply Eg PySem.F.slot_dict_get dd.typeIs PySem.F.entry_dict_get (PySem.F.args_dict_get_3 _ _ _) (meetsH_dict_get_default Èp a b hd r) ⟨Ef Y,k,xs,x8 I.ax U,dd,h _ _ (I.tok _) ?_⟩;rw[l];exact(m.val k).D J
end
def Si(td m:TE):TE:=λσ H Q=>td σ H λx H1=>∃a,x=.ref a/\EW H1 a/\m σ H1 λy j=>∃o,j9 j a y o/\Q (o.D .aK) j
def adk(td J F:TE):TE:=λσ H Q=>td σ H λx H1=>∃a,x=.ref a/\EW H1 a/\J σ H1 λy m=>F σ m λz j=>∃o,j9 j a y o/\Q (o.D z) j
def adl(Y:X.A.units+1<cLine)(W:PE X o td)(U:ϥ ty)(m:M1 X o "get" i4 e gh):PE X (.Call (.Attribute o "get" i4) [e] [] gh) (Si td ty):=by
 show Ö;apply Iu m.base m.dh m.line PySem.F.plainAttrs_dict PySem.F.slot_dict_get PySem.F.type_dict_get (aL (W pins s σ H _ I h) λu s1 ⟨x,H1,j,rx,a,ex,d,q1⟩=>?_);subst ex;obtain rfl:u=Value.ref a:=rx;let(t1,t2,_):=JQ j d;refine Èi;rw[m.trees];apply Il Á (Qc (D6 (aL (U pins s1 σ H1 _ j q1) λiv s2 ⟨y,z,J,ry,ov,g,q2⟩=>P9 ?_)));exact adi Y J g ry λw' s3 O Z=>⟨_,z,O,Z,q2⟩
def adm(hu:X.A.units+1<cLine)(ho:PE X o td)(Z:ϥ ty)(hf:PE X f tx)(m:M2 X o "get" i4 e f gh):PE X (.Call (.Attribute o "get" i4) [e,f] [] gh) (adk td ty tx):=by
 show Ö;apply Iu m.base m.dh m.line PySem.F.plainAttrs_dict PySem.F.slot_dict_get PySem.F.type_dict_get (aL (ho pins s σ H _ I h) λu s1 ⟨x,H1,j,rx,a,ex,d,q1⟩=>?_);subst ex;obtain rfl:u=Value.ref a:=rx;let(t1,t2,_):=JQ j d;refine Èi;rw[m.trees];refine Il Á (Qc (D6 (aL (Z pins s1 σ H1 _ j q1) λiv s2 ⟨y,J,U,ry,q2⟩=>
  D6 (aL (hf pins s2 σ J _ U q2) λfv s3 ⟨z,O,W,rz,ov,g,q3⟩=>P9 ?_))))
 exact adj hu W g ry rz λw' s4 Y jb=>⟨_,O,Y,jb,q3⟩
section
variable{X:Cx}{pins:bJ}{σ:St}{H:Hp}{s:Sh}{a:Addr}{kvs:List (Key×V)}{A:Around}{E:VP}
end
section
variable{X:Cx}{pins:bJ}{σ:St}{H:Hp}{s:Sh}{a:Addr}{y:V}{u:Value}{A:Around}{E:VP}
end
def adn:typeLookup (.type "list") "keys"=pure none:=am_miss_of_fast (by first|decide+kernel|rfl)
def Sj:entryFor table "dict.update.loop"=Α Builtin.«dict.update.loop»:=entryFor_of_tree (by kernel_rfl)
def B0:plainId "dict.update.loop"=true:=by decide+kernel
def ado{s:Sh}{a:Addr}{o:Obj}{xs:Array Value}{k:Nat}{Q:Option Value->Shared->Prop}(J:s.U a=Α o)(hc:o.cls=.type "list")(Y:o.data=.seq xs k)(hd:o.dict=Β)(hA:A.handled=Β)(h:∀h' tk,(∀b U,s.U b=Α U->h'.I b=Α U)->Q none {s with heap:=h',toks:=tk}):wpAny Ë A (getAttr? ā "keys") Q E s:=by
 let(c,zt,Z,sl):=o;simp only at hc Y hd;subst hc Y hd;let(hp,g,d,tk,os):=s;let z:∀O,(⟨hp,g,d,O,os⟩:Sh).TypeIs ā "list":=λ_=>⟨_,J,rfl⟩;let j:=adn;let m:(["__module__","__name__","__qualname__","__doc__","__annotations__"]:LS).Y "keys"=false:=by decide+kernel
 let hsz:("keys":Str).L+100<=sizeLine:=by first|size_fits|decide+kernel
 let f1:=sub_AttributeError;let f3:=PySem.F.slot_list_getattribute.lookup;let f4:=PySem.F.slot_list_getattribute.bind ā;let f5:=am_list_getattr_none;ext getAttr? getAttrBy? getAttrBy
 repeat (any_goals (first|assumption|exact z _|((with_reducible show wpAny _ _ (call (Value.builtin "list.__getattribute__") _ _) _ _ _);apply Im PySem.F.slot_list_getattribute (z _) am_entry_list_getattribute (PySem.F.args_list_getattribute_2 _ _) (meets_getattribute_miss_list a xs k sl "keys" _ j m hsz) ⟨J,hA,λh' O e W=>?_⟩)|wp_step))
 let(t',u',he):=W.there;show wpAny _ _ (getattributeRaised _ _ _ _ _ _ _) _ _ _;ext getattributeRaised
 repeat (any_goals (first|assumption|wp_step))
 all_goals first|exact h _ _ W.keeps|(dsimp only;repeat (any_goals (first|assumption|exact h _ _ W.keeps|wp_step)))
theorem ads{α:Type}{R:Result->Shared->Prop}{S I l:Addr}{items:Array Value}{res:Value}{DD:Heap->List α->Prop}{G:Heap->α->Value->Value->Prop}{st:List α->α->List α}(hh:A.handled=Β)(hlI:l≠I)(F:S<I)(hSl:S≠l)(dk:∀h h' acc,DD h acc->(∀b o,b<=S->h.I b=Α o->h'.I b=Α o)->DD h' acc) (gk:∀h h' q u y,G h q u y->(∀b o,b<S->h.I b=Α o->h'.I b=Α o)->G h' q u y)(ds:∀(s:Sh)acc q u y(Q:Unit->Shared->Prop)E,G s.H q u y->DD s.H acc->acc.L<=sizeLine->(∀h' tk,DD h' (st acc q)->Heap.SameBut S s.H h'->Q () {s with heap:=h',toks:=tk})->wpAny Ë A.in1 (dictSet S u y) Q E s)(sl:∀acc q,(st acc q).L<=acc.L+1):
  ∀(bT:List α)(i:Nat)(acc:List α)(ix:Int)(t:Tok)(s:Sh),items.u=i+bT.L->acc.L+bT.L<=sizeLine->
   (∀(j:Nat)(q:α),bT[j]? =Α q->∃(b:Addr)(u y:Value),items[i+j]? =Α (.ref b)/\b<S/\IsTup s.H b #[u,y]/\G s.H q u y)->
   s.H.IsListIter I l i->s.H.IsList l items->DD s.H acc->
   (∀h' tk,DD h' (bT.foldl st acc)->(∀b o,b≠S->b≠I->s.U b=Α o->h'.I b=Α o)->R (.ok (.ret res)) {s with heap:=h',toks:=tk})->
   codeAny Ë A (.builtin "dict.update.loop" ⟨[.ref S,.ref I,.int ix t,res],[]⟩) R s:=by
 intro bT;induction bT with
 |nil=>
  intro i acc ix t s hsz EX ht fJ O hm hR;apply vM Sj ?_;rw[xG B0 _];apply au (wpAny_pyNext_list_end (A:=A.in1) hh fJ O (by first|exact arG (Bf hsz)|(simp at hsz;simp;omega)) λh' he=>?_);exact au (aP (aP (hR h' s.toks (dk _ _ _ hm λb o m e=>he b o (dX (oN m F)) e) λb o _ m e=>he b o m e)))
 |cons q bT ih=>
  intro i acc ix t s hsz EX ht fJ O hm hR;let(b,u,y,m,EY,Y,hk):=ht 0 q rfl;rw[df] at hsz EX;apply vM Sj ?_;rw[xG B0 _];apply au (wpAny_pyNext_list_item (x:=.ref b) fJ O (À m) λh1 Z W=>?_);let k1:∀b o,b<=S->s.U b=Α o->h1.I b=Α o:=λb o m e=>W.extBut b o (dX (oN m F)) e;let(o,ho,hc,n,hd):=Y.extBut W.extBut (dX (Bk EY F));apply au (zg ?_);apply au (wpAny_tryCatch ?_);ext Builtin.Dict.pairItems;apply au (Qk (T:="tuple") ⟨o,ho,hc⟩ ?_);rw[af (by first|decide|rfl|simp)];apply au (P2 ho hd (aP ?_));apply zg (ds _ _ _ _ _ _ _ (gk _ _ _ _ _ hk λb o m e=>k1 b o (qU m) e) (dk _ _ _ hm k1) Ô λh2 tk2 EZ J=>?_);let z:=sl acc q;refine aP ⟨vN B0 _,ih (i+1) (st acc q) (ix+1) 0 _ (show items.u=i+1+bT.L by grind) Ô Èj (Z.at λo' e=>J.extBut I o' (qS F) e) ((O.extBut W.extBut hlI).extBut J.extBut (dj hSl)) EZ λh' tk qd k=>hR h' tk qd λc oc h3 h4 e=>k c oc h3 h4 (J.extBut c oc h3 (W.extBut c oc h4 e))⟩;let(b',u',y',ja,U,ady,je):=ht (j+1) q' (À e);exact(b',u',y',by rw[show i+1+j=i+(j+1) by lia];exact ja,U,(ady.extBut W.extBut (dX (Bk U F))).extBut J.extBut (dX U),gk _ _ _ _ _ je λb o m e=>J.extBut b o (dX m) (k1 b o (qU m) e))
def Sk{s:Sh}{l:Addr}{O:Obj}{items:Array Value}{n:Nat}{α:Type}{prs:List α}{Q:VP}{DD:Heap->List α->Prop}{G:Heap->α->Value->Value->Prop}{st:List α->α->List α}(hh:A.handled=Β)(W:s.U l=Α O)(hc:O.cls=.type "list")(hd:O.dict=Β)(uY:O.data=.seq items n) (hsz:items.u=prs.L) (EX:prs.L<=sizeLine)(d0:DD (s.o {cls:=.type "dict",data:=.dict #[]}) [])(dk:∀h h' acc,DD h acc->(∀b o,b<=s.Z->h.I b=Α o->h'.I b=Α o)->DD h' acc) (gk:∀h h' q u y,G h q u y->(∀b o,b<s.Z->h.I b=Α o->h'.I b=Α o)->G h' q u y)(ds:∀(J:Sh)acc q u y(Q:Unit->Shared->Prop)E,G J.H q u y->DD J.H acc->acc.L<=sizeLine->(∀h' tk,DD h' (st acc q)->Heap.SameBut s.Z J.H h'->Q () {J with heap:=h',toks:=tk})->wpAny Ë A.in1.in1 (dictSet s.Z u y) Q E J)(sl:∀acc q,(st acc q).L<=acc.L+1)(ht:∀(j:Nat)(q:α),prs[j]? =Α q->∃(b:Addr)(u y:Value),items[j]? =Α (.ref b)/\IsTup s.H b #[u,y]/\G s.H q u y)(h:∀h' tk,DD h' (prs.foldl st [])->(∀b o,s.U b=Α o->h'.I b=Α o)->Q î {s with heap:=h',toks:=tk}):
  wpAny Ë A (call (.type "dict") [.ref l]) Q E s:=by
 apply callType_codes (Q₁:=λobj s₁=>obj=.ref s.Z/\s₁={s with heap:=s.o {cls:=.type "dict",data:=.dict #[]}}) PySem.F.kt_called_dict (PySem.F.kt_typeCall_dict_1 _) PySem.F.entry_dict_init (kt_code_dict_new _ ⟨Á,Á⟩) ?_;rintro obj s₁ ⟨rfl,rfl⟩;let Sl:(s.o {cls:=.type "dict",data:=.dict #[]}).DictOf Åd s.Z []:=ZA s.H;let k0:∀b o,s.U b=Α o->(s.o {cls:=.type "dict",data:=.dict #[]}).I b=Α o:=λb o e=>cf _ e;apply(Sl.typeIs,PySem.F.args_dict_init_2 _ _,?_);delta Builtin.«dict.__init__»;apply au ?_;ext Builtin.Dict.selfAndRest;apply au (wpAny_notOrdered_dict Sl.typeIs ?_);show wpAny _ _ (pure (s.Z,[Value.ref l])) _ _ _;apply aP ?_;show wpAny _ _ (Builtin.Dict.updateFrom "dict.__init__" s.Z Ãc [] .none) _ _ _;ext Builtin.Dict.updateFrom;apply au (Qk (T:="list") ⟨O,k0 _ _ W,hc⟩ ?_);rw[af Ò];apply au (ado (k0 _ _ W) hc uY hd hh λm tk1 U=>?_);rw[af (show(none:Option Value).isNone=true from rfl)];apply au (zi ?_);let eQ:m.IsList l items:=⟨O,U _ _ (k0 _ _ W),hc,n,uY⟩;let Y:s.Z<m.O:=by
  let e:(s.o {cls:=.type "dict",data:=.dict #[]}).I s.Z=Α {cls:=.type "dict",data:=.dict #[]}:=eY _ rfl;exact cq (U _ _ e)
 apply au (P8 eQ ?_);let k2:∀b o,m.I b=Α o->(m.push {cls:=.type "list_iterator",data:=.fields #[.ref l,.int 0 0]}).I b=Α o:=λb o e=>cf _ e;let br:l<s.Z:=cq W;let Z:=Bk br Y;let kk:∀b o,s.U b=Α o->(m.push {cls:=.type "list_iterator",data:=.fields #[.ref l,.int 0 0]}).I b=Α o:=λb o e=>k2 _ _ (U _ _ (k0 _ _ e));let fG:=ads (prog:=prog) (w:=w) (A:=A.in1) (R:=wants (λr s₂=>r=.none/\Q î s₂) E) (S:=s.Z) (I:=m.O) (l:=l) (items:=items) (res:=Value.none) hh
  (dX Z) Y (qS br) dk gk ds sl prs 0 [] 0 0
  {s with heap:=m.push {cls:=.type "list_iterator",data:=.fields #[.ref l,.int 0 0]},toks:=tk1} (by rw[hsz,xH]) (by rw[sy,xH];exact EX)
  (λj q e=>by
   let(b,u,y,e1,e2,e3):=ht j q e;exact(b,u,y,by rw[xH];exact e1,e2.lt,e2.keeps λc o z=>kk _ _ z,gk _ _ _ _ _ e3 λc o _ z=>kk _ _ z))
  ⟨_,eY _ rfl,rfl,rfl⟩ (eQ.at λo e=>k2 _ _ e) (dk _ _ _ d0 λb o _ e=>k2 _ _ (U _ _ e))
  (λh' tk qd k=>⟨rfl,h h' tk qd λb o e=>k b o Åe (dX (Bk (cq e) Y)) (kk _ _ e)⟩)
 first
  |exact aP ⟨vN B0 _,fG⟩
  |exact au (aP (aP ⟨vN B0 _,fG⟩))
def adB{pins:bJ}{σ:St}{H:Hp}{s:Sh}(I:Ã H s):∀{ps:LA}{kvs:List (Key×V)},Paired (λp kv=>bz X.K H p [kV kv.1,kv.2]) ps kvs->
  ∃prs:List (Key×Value),KV kvs prs/\prs.L=ps.L/\∀(j:Nat)(q:Key×Value),prs[j]? =Α q->∃(b:Addr)(u:Value),ps[j]? =Α b/\IsTup s.H b #[u,q.2]/\sI q.1 u=true:=by
 intro ps kvs U;induction U with
 |nil=>exact([],.nil,Á,λj q e=>by simp at e)
 | @cons p kv ps kvs h t ih=>
  let(prs,r,W,Y):=ih;let(aj,rv,Z,_):=I.tuple h;let(u,y,O,ru,ry):=vals2 rv;subst O;apply((kv.1,y)::prs,.cons ⟨Á,ry⟩ r,by rw[df,df,W],λj q e=>?_);cases j with
  |zero=>
   let m:(kv.1,y)=q:=aO e;subst m;exact(p,u,Á,Z,wo (P:=X.prog) (w:=X.w) ru)
  |succ j=>
   let(b,u',z,F,J):=Y j q (À e);exact(b,u',À z,F,J)
theorem Sm{ps:LA}:∀{U:LV},a9 Âd U->U=ps.M Value.ref:=by
 induction ps with
 |nil=>
  intro U r;rw[mr] at r;cases r;rfl
 |cons p ps j=>
  intro U r;rw[a8] at r;cases r with
  |cons h t=>
   cases h;rw[a8,<-j t]
def adC(J:X.calm=true):j5 X (.type "dict") (λxs H Q=>∃(a:Addr)(ps:LA)(kvs:List (Key×V)),xs=[.ref a]/\ϳ a Âd/\Paired (λp kv=>bz X.K H p [kV kv.1,kv.2]) ps kvs/\
  ∀p,H p=Β->Q ĝ (upd H p Åy)):=by
 intro pins s σ H xs us Q I r q;let(a,ps,kvs,ex,hq,hp,q):=q;subst ex;let(u,Y,rx):=vals1 r;subst Y;cases rx;let(aj,rv,pl,hz):=I.list hq;let W:=Sm rv;subst W;rw[az] at hz;let(prs,F,m,Z):=adB I hp;let(o,n,ho,hc,hd,uY):=pl;apply Sk (prs:=prs) (DD:=λh=>h.DictOf ĉ s.Z) (G:=λ_ q u y=>y=q.2/\sI q.1 u=true) (st:=λa q=>stored a q.1 q.2) (I.ok.hd J) ho hc hd uY (by simp[m]) Å (ZA s.H) (λ_ _ _ d k=>d.at λo e=>k _ o (bw _) e) (λ_ _ _ _ _ g _=>g) (λ_ _ _ _ _ _ _ g d hz k=>g.1▸ wpAny_dictSet_pairs (knd:=e9 X.prog X.w) g.2 d (λh'=>k h' _) hz) (λa q=>stored_length_le a q.1 q.2) Èj λh' tk qd k=>?_
 .let(b,u,e1,O,U):=Z j q' e;exact(b,u,_,by simp_all,O,rfl,U)
 .let hm:(s.Z==sysModules)=false:=xD.mpr (qS I.big);let z:(uX [] kvs).L<=sizeLine:=by
   apply gS (adh kvs []) ?_;rw[sy,xH,F.L,m];omega
  exact(.ref s.Z,Ĕ Åy,I.laid (t':=tk) k (bw _) (show fO X.prog X.w _ _ _ Åy from⟨z,hm,merged [] prs,KV.merge F .nil,qd⟩),Á,q _ ğ)
section
variable{X:Cx}{pins:bJ}{σ:St}{H:Hp}{s:Sh}{h':Heap}
def Inv.adD{t':Nat}{ch:LA}(I:Ã H s)(k:∀b o,b∉ch->s.U b=Α o->h'.I b=Α o)(j:∀b∈ch,Ņ H b):Ã H {s with heap:=h',toks:=t'}:=by
 let J:∀b u,H b=Α u->b∉ch:=λb u e z=>by
  let q:=(j b z).1;symm
 refine I.step (g':=s.gens) (d':=s.drawn) (ch:=ch) (λb F=>⟨(j b F).2.2.2.1,(j b F).2.1,(j b F).2.2.2.2.1,(j b F).2.2.2.2.2⟩) (λb o _ _ hc e _=>k b o hc e) (λb o _ _ hc e _=>⟨o.slots,k b o hc e⟩)
  (λ_ _ _ _ n=>n) (λb o hc e=>⟨o,k b o hc e⟩) (λ_ _ e=>e) (λ_ _ _ e=>e) (λb ps e=>⟨#[],by rw[e];simp⟩) Æh (λb u e=>?_) I.bare
 .let(o,es,ep,O,r):=hm;exact(o,es,ep,k _ o (λz=>(j _ z).2.1 Á) O,r)
 .refine(I.ax b u e).nH Áz (λ_ q=>q) λ_ _ q=>q;rcases hc with z|z
  .rw[z];exact J b u e
  .exact J c _ z
def Inv.adE{t':Nat}{ch:LA}{T:Addr}{O:HO}(I:Ã H s)(k:∀b o,b∉ch->s.U b=Α o->h'.I b=Α o)(F:∀b∈ch,Ņ H b)(J:s.Z<=T)(new:Àh (ϣ O) h' T O):Ã (ϣ O) {s with heap:=h',toks:=t'}:=by
 let hn:H T=Β:=I.ax.fresh J;let U:∀b u,H b=Α u->b∉ch:=λb u e z=>by
  let q:=(F b z).1;symm
 refine I.step (g':=s.gens) (d':=s.drawn) (ch:=ch) (λb j=>⟨(F b j).2.2.2.1,(F b j).2.1,(F b j).2.2.2.2.1,(F b j).2.2.2.2.2⟩) (λb o _ _ hc e _=>k b o hc e) (λb o _ _ hc e _=>⟨o.slots,k b o hc e⟩)
  (λb o _ e n=>?_) (λb o hc e=>⟨o,k b o hc e⟩) (λb xs e=>?_) (λb o u e=>?_) (λb ps e=>⟨#[],?_⟩) Æh (λb u e=>?_) I.bare
 .rw[ao (dX (iD (cq e) J))];exact n
 .rw[ao (eO e hn)];exact e
 .rw[ao (eO e hn)];exact e
 .rw[ao (eO e hn),e];simp
 .let(o,es,ep,W,r):=hm;exact(o,es,ep,k _ o (λz=>(F _ z).2.1 Á) W,r)
 .by_cases j:b=T
  .subst j;rw[aq] at e;cases e;exact new
  .rw[ao j] at e;refine(I.ax b u e).nH Áz (λc q=>by rw[ao Äs];exact q) λc xs q=>by rw[ao Äs];exact q
   rcases hc with z|z
   .rw[z];exact U b u e
   .exact U c _ z
def Inv.lock(I:Ã H s)(h:H d=Α u)(m:uN Âr):∃od,Ã Æn s:=by
 let x:=I.ax d u h;let ex:∃od,s.U d=Α od:=by
  cases u with
  |lst xs=>let(_,_,_,_,e):=x;exact(_,e)
  |dK kvs=>let(_,_,_,_,o,_,_,e,_):=x;exact(o,e)
  |dT kvs=>let(_,_,_,_,o,_,_,e,_):=x;exact(o,e)
  |set S n=>let(o,_,_,_,e,_):=x;exact(o,e)
  |ins C dx fs=>let(_,_,_,e,_):=x;exact(_,e)
  |ext φ=>let(_,(_,e),_):=x;exact(_,e)
  |_=>exact False.elim m
 let(od,e):=ex;let new:Àh Æn s.H d ϕ:=by
  apply(e,x.nH Äb (λb q=>?_) λb xs q=>?_)
  .rw[ao (λz=>by rw[z,h] at q;cases q;exact m)];exact q
  .rw[ao (λz=>by rw[z,h] at q;cases q;exact m)];exact q
 exact(od,I.write (x:=d) (e:=d) (t':=s.toks) (h':=s.H) Å ě Äb ⟨od,e⟩ new)
def Inv.B4(I:Ã H s)(h:H d=Α u)(m:uN Âr):∀O U,X.rh d≠some (.cI O U):=λO U e=>by
 let q:=I.base.nI d O U e;rw[h] at q;cases q;exact m
def Inv.unlock(I:Ã H s)(h:H d=Α ϕ)(W:∀O U,X.rh d≠some (.cI O U)):Ã (upd H d u) s:=by
 let Z:∀b o,H b=Α o->(∀O U,o≠ .cI O U)->b≠d:=λb o e J z=>by
  grind
 let neN:∀b,H b=Β->b≠d:=λb e z=>by rw[z,h] at e;cases e
 apply(I.ok,I.os,I.bare,⟨I.base.keep,I.base.slot,λb o e n hx=>?_,I.base.there,λb xs e=>?_,λb o x e=>?_,λb ps e=>?_⟩,I.loc,I.cell,?_,λx c e=>?_,λp F=>?_,λb o e=>?_,I.len)
 .rw[ao (neN b ϭ)];exact I.base.free b o e n hx
 .let q:=I.base.pY b xs e;rw[ao (Z b _ q (λ_ _ z=>nomatch z))];exact q
 .let q:=I.base.nI b o x e;rw[ao ì];exact q
 .let(m,q):=I.base.pZ b ps e;exact(m,by rw[ao (Z b _ q (λ_ _ z=>nomatch z))];exact q)
 .rw[ao (neN _ I.free)];exact I.free
 .rw[ao (neN c Çi)];exact I.j4 x c e
 .let(e,n,r):=I.pin p F;exact(e,by rw[ao (neN _ n)];exact n,r)
 .by_cases j:b=d
  .rw[j,aq] at e;cases e;rw[j];let(_,x):=I.ax d _ h;exact x.nH (λc v _ q=>q) (λc q=>by rw[ao (Z c _ q (λ_ _ z=>nomatch z))];exact q) λc xs q=>by rw[ao (Z c _ q (λ_ _ z=>nomatch z))];exact q
  .rw[ao j] at e;exact(I.ax b o e).nH (λc v _ q=>q) (λc q=>by rw[ao (Z c _ q (λ_ _ z=>nomatch z))];exact q) λc xs q=>by rw[ao (Z c _ q (λ_ _ z=>nomatch z))];exact q
end
def adF(t:TS):TS:=λD σ H=>∃d u,H d=Α u/\uN Âr/\∀od,t ⟨λσ' H'=>H' d=Α ϕ/\D.nx σ' Ão,λv H'=>H' d=Α ϕ/\D.rt v Ão,λσ' H'=>H' d=Α ϕ/\D.bk σ' Ão,λσ' H'=>H' d=Α ϕ/\D.ct σ' Ão⟩ σ Æn
def adG(t:TE):TE:=λσ H Q=>∃d u,H d=Α u/\uN Âr/\∀od,t σ Æn λv H'=>H' d=Α ϕ/\Q v Ão
def Sn{st:Stmt}{t:TS}(h:PS X st t):PS X st (adF t):=by
 intro pins s σ H D I m;let(d,u,hd,mu,m):=m;let(od,z):=I.lock hd mu;apply aL (h pins s σ _ _ z (m od)) λf F q=>?_;cases f with
 |next=>let(σ',H',j,e,q):=q;exact(σ',_,j.unlock e Ãx,q)
 |brk=>let(σ',H',j,e,q):=q;exact(σ',_,j.unlock e Ãx,q)
 |cont=>let(σ',H',j,e,q):=q;exact(σ',_,j.unlock e Ãx,q)
 |ret v=>let(x,σ',H',j,r,e,q):=q;exact(x,σ',_,j.unlock e Ãx,r,q)
def adH(h:ϥ t):ϥ (adG t):=by
 intro pins s σ H Q I j;let(d,u,hd,mu,j):=j;let(od,m):=I.lock hd mu;apply aL (h pins s σ _ _ m (j od)) λv J ⟨x,H1,z,r,F,q⟩=>?_;exact(x,_,z.unlock F Ãx,r,q)
def E2{tg:Expr}{pins:bJ}{σ:St}{H:Hp}{s:Sh}{R:It->Hp->Prop}{J:It}{tn:Nat->Heap->Prop}{tk:Nat}(I:Ã H s)(o:Obj)(T:Turn X.prog X.w X.K tg J [s.Z] s.Z tn) (st:tn 0 (s.o o)) (q:R J H):BI X pins σ tg R î {s with heap:=s.o o,toks:=tk}:=by
 apply(s.Z,[s.Z],tn,J,H,Á,I.kept λb O e=>cf _ e,T,st,λb j=>?_,q);let e:b=s.Z:=À j
 subst e;exact I.vX (bw _) ğ
def B5(x:Str):It:=⟨λi _=>i<x.cps.u,λi H v H'=>H'=H/\∃c,x.cps[i]? =Α c/\v=.str ⟨#[c]⟩,λi _=>x.cps.u<=i⟩
def So{P:Pg}{w:Wd}{K:FR}{tg:Expr}(it:Addr)(x:Str)(t:Tok)(j:String)(m:j="str_ascii_iterator"\/j="str_iterator"):
  Turn P w K tg (B5 x) [it] it (λi h=>h.IsStrIter it j x t i) where
 mem:=by simp
 obj:=λi h st b hb=>by
  let e:b=it:=À hb
  subst e;let(o,e,c,d):=st;exact(o,e,λv z=>by rw[d] at z;cases z)
 keep:=λi h h' st k=>let ⟨o,ho,r⟩:=st;⟨o,k it Ä o ho,r⟩
 item:=by
  show Ó;subst hP hw hK;show ë;let W:Walks X.prog X.w X.A it [it] [it] x.cps.u (SignAt x) (λi h=>h.IsStrIter it j x t i):=by
   rcases m with e|e
   .rw[e];exact Walks.strAscii Ā it x t
   .rw[e];exact Walks.strWide Ā it x t
  let O:["enumerate","zip","dict_itemiterator","dict_reverseitemiterator","odict_iterator","itertools.zip_longest","itertools.pairwise"].Y j=false:=by
   rcases m with e|e
   .rw[e];decide
   .rw[e];decide
  apply W.item i s _ _ hg st λv h' tk Z J kk=>?_;let(c,u,jv,rfl):=Z;let U:Ã H {s with heap:=h',toks:=tk}:=I.turned (λb o hb e=>kk b o (À hb) e) f0 f1 f3 f4 f5;let(oi,e,Y,dd):=id J;exact(_,Á,EC (s:={s with heap:=h',toks:=tk}) e Y dd O ⟨.str ⟨#[c]⟩,H,U,⟨u,Á⟩,⟨Á,c,jv,Á⟩,J,λb hb=>(hf b hb).1⟩)
 done:=by
  show Ó;subst hP hw hK;show ë;let F:x.cps[i]? =Β:=arG hg;rcases m with e|e
  .rw[e] at st;exact wpAny_pyNext_ascii_end Ā st F λh' eb=>⟨Á,I.turned (t':=s.toks) Ϙ f0 f1 f3 f4 f5⟩
  .rw[e] at st;exact wpAny_pyNext_wide_end Ā st F λh' eb=>⟨Á,I.turned (t':=s.toks) Ϙ f0 f1 f3 f4 f5⟩
 self:=λA i s Q E st h=>by
  rcases m with e|e
  .rw[e] at st;exact wpAny_pyIter_striter_ascii st h
  .rw[e] at st;exact wpAny_pyIter_striter_wide st h
def adI(te:TE):TI:=λσ H R=>te σ H λv H1=>∃x,v=.str x/\R (B5 x) H1
def adJ{X:Cx}{tg e:Expr}{te:TE}(z:ϥ te):PI X tg e (adI te):=by
 intro pins s σ H R I h;apply aL (z pins s σ H _ I h) λv m ⟨y,H1,j,F,x,ex,q⟩=>?_;subst ex;let(t,rfl):=F;cases ha:x.cps.all (· <128)
 .exact wpAny_pyIter_wide ha (E2 (tk:=m.toks) j _ (So _ x t "str_iterator" Éc) ⟨_,eY _ Á,Á,Á⟩ q)
 .exact wpAny_pyIter_ascii ha (E2 (tk:=m.toks) j _ (So _ x t "str_ascii_iterator" ě) ⟨_,eY _ Á,Á,Á⟩ q)
theorem Sq{κ:Type}{kvs:List (κ×V)}{vs:List (κ×Value)}(h:KV kvs vs):∀{i:Nat}{k:κ}{v:V},kvs[i]? =Α (k,v)->∃u,vs[i]? =Α (k,u)/\RelV v u:=by
 delta KV at h;induction h with
 |nil=>intro i k v e;simp at e
 | @cons a b l₁ l₂ r t ih=>
  intro i k v e;cases i with
  |zero=>
   simp only[arI,Option.some.injEq] at e;subst e;apply(b.2,?_,r.2);simp only[arI];exact cw some (Prod.ext r.1.symm Á)
  |succ j=>
   simp only[arJ] at e⊢;exact ih e
def adK(h:sI k u=true):RelV (kV k) u:=by
 rcases sJ h with ⟨i,t,rfl,rfl⟩|⟨x,t,rfl,rfl⟩
 .exact(t,Á)
 .exact(t,Á)
section
variable{X:Cx}{pins:bJ}{σ:St}{H:Hp}{s:Sh}{d:Addr}{o:Obj}
def Inv.zQ(I:Ã H s)(h:H d=Α ϯ):
  (d==sysModules)=false/\s.U d=Α o/\o.ExactDict/\∃(es:Array DictEntry)(ep:Nat)(vs:List (Key×Value)),o.data=.dict es ep/\es.u=kvs.L/\KV kvs vs/\s.H.DictAt ĉ d vs ep:=by
 let(hd,z,hs,vs,kv,U,es,ep,j,m,F,r):=I.ax d _ h;rw[hd] at j;cases j;apply(hs,hd,m,es,ep,vs,F,?_,kv,o,es,hd,m,F,r);let J:=r.2.1.L;let O:kvs.L=vs.L:=Paired.length kv;symm
end
def B6(d:Addr)(o:Obj)(kvs:List (Key×V)):It:=
 ⟨λi H=>H d=Α ϯ/\i<kvs.L,λi H x H'=>H'=H/\∃k,kvs[i]? =Α (k,x),λi H=>H d=Α ϯ/\kvs.L<=i⟩
def wu(d:Addr)(o:Obj)(kvs:List (Key×V)):It:=
 ⟨λi H=>H d=Α ϯ/\i<kvs.L,λi H x H'=>∃T k v,kvs[i]? =Α (k,v)/\x=.ref T/\H T=Β/\H'=upd H T Çt,λi H=>H d=Α ϯ/\kvs.L<=i⟩
def E3{o:Obj}{es j:Array DictEntry}{ep m:Nat}(h:o.data=.dict es ep)(h':o.data=.dict j m):j=es/\m=ep:=by
 symm
section
variable{P:Pg}{w:Wd}{K:FR}{tg:Expr}{d:Addr}{o:Obj}{es:Array DictEntry}{ep:Nat}
def adL{kvs:List (Key×V)}(it:Addr)(U:o.data=.dict es ep):Turn P w K tg (B6 d o kvs) [it] it (λi h=>h.IsValIter it d i kvs.L ep) where
 mem:=by simp
 obj:=λi h st b j=>by
  let e:b=it:=À j
  subst e;let(O,e,c,dd):=st;exact(O,e,λv z=>by rw[dd] at z;cases z)
 keep:=λi h h' st k=>st.at λO e=>k it Ä O e
 item:=by
  show Ó;subst hP hw hK;let(hd,hi):=hg;show ë;let(hs,B8,hx,iq,sN,vs,J,hsz,kv,F):=I.zQ hd;let(rfl,rfl):=E3 U J;obtain⟨⟨k,v⟩,W⟩:∃p,kvs[i]? =Α p:=⟨kvs[i],c7 hi⟩;let(u,hu,ru):=Sq kv W;let m:kvs.L=vs.L:=Paired.length kv;rw[m] at st;apply wpAny_pyNext_values_item st F hu λh' Y sb=>?_;let I1:Ã H {s with heap:=h'}:=I.turned (t':=s.toks) (λb Z j e=>(sb.2 b j).R e) f0 f1 f3 f4 f5;let(O,e,c,dd):=id Y;apply(u,Á,EC (s:={s with heap:=h'}) e c dd Ù ⟨v,H,I1,ru,⟨Á,k,W⟩,?_,λb j=>(hf b j).1⟩);show h'.IsValIter it d (i+1) kvs.L _;rw[m];exact Y
 done:=by
  show Ó;subst hP hw hK;let(hd,hi):=hg;show ë;let(hs,B8,hx,iq,sN,vs,J,hsz,kv,F):=I.zQ hd;let(rfl,rfl):=E3 U J;let m:kvs.L=vs.L:=Paired.length kv;rw[m] at st;exact wpAny_pyNext_values_end Ā st F (zl Å) λh' eb=>⟨Á,I.turned (t':=s.toks) (λb Z j e=>eb b Z j e) f0 f1 f3 f4 f5⟩
 self:=λA i s Q E st h=>wpAny_pyIter_valiter st h
def E4{X:Cx}{fp:LA}(st:∀b∈fp,∃o,s.U b=Α o/\∀v,o.data≠ .cell v)(z:∀b∈fp,Ņ H b){j:Heap}{t':Nat}{x y:V}{u v:Value}(k:∀b o,b∉fp->s.U b=Α o->j.I b=Α o)(I:Ã H s)(F:j.I s.Z=Α {cls:=.type "tuple",data:=.seq #[u,v]}) (J:RelV x u) (O:RelV y v):Ã (Ĕ Çj) {s with heap:=j,toks:=t'}/\∀b∈fp,(Ĕ Çj) b=Β:=
 ⟨I.adE k z (bw _) ⟨by show 2<=sizeLine;decide,[u,v],.cons J (.cons O .nil),_,F,rfl,_,rfl⟩,λb m=>by
  let(o,e,_):=st b m;rw[ao Åe];exact(z b m).1⟩
def Sr(st:∃ok O,IsItemIter h it d i n ep ok O):∀b∈[it],∃o,h.I b=Α o/\∀v,o.data≠ .cell v:=λb j=>by
 obtain rfl:b=it:=À j
 let(ok,O,e):=st;exact(_,e,λv z=>nomatch z)
def adM{kvs:List (Key×V)}{ny:List Expr}{kk:Nat}{mQ:Pos}(it:Addr)(Z:o.data=.dict es ep):
  Turn P w K į (wu d o kvs) [it] it (λi h=>∃ok m,IsItemIter h it d i kvs.L ep ok m) where
 mem:=by simp
 obj:=λi h=>Sr
 keep:=λi h h' st k=>let ⟨ok,m,e⟩:=st;⟨ok,m,k it Ä _ e⟩
 item:=by
  show Ó;subst hP hw hK;let(hd,hi):=hg;let(hs,B8,hx,iq,sN,vs,Y,hsz,kv,U):=I.zQ hd;let(rfl,rfl):=E3 Z Y;obtain⟨⟨k,v⟩,B9⟩:∃p,kvs[i]? =Α p:=⟨kvs[i],c7 hi⟩;let(u,hu,ru):=Sq kv B9;let F:kvs.L=vs.L:=Paired.length kv;let O:=Sr st;let(ok,m,j):=st;rw[F] at j;let br:it<s.Z:=cq j;apply wpAny_pyNext_items_item j U hu λJ h' Jp ho hT hz hk=>?_;apply(_,Á,wpAny_letOwnedTupleGo_items (s:={s with heap:=h'}) ho λqk Ca sb=>?_);let uZ:qk.I s.Z=Α {cls:=.type "tuple",data:=.seq #[J,u]}:=(sb.2 _ (qS br)).R hT;let ⟨I1,n1⟩:=E4 (t':=s.toks) O hf (λb O z e=>(sb.2 b (À z)).R (hk b O (À z) e)) I uZ (adK (show sI k J=true from Jp)) ru;exact(.ref s.Z,_,I1,Á,⟨_,k,v,B9,Á,I.ax.fresh (bw _),Á⟩,⟨J,u,by rw[F];exact Ca⟩,n1)
 done:=by
  show Ó;subst hP hw hK;let(hd,hi):=hg;show ë;let(hs,B8,hx,iq,sN,vs,Y,hsz,kv,U):=I.zQ hd;let(rfl,rfl):=E3 Z Y;let F:kvs.L=vs.L:=Paired.length kv;let(ok,m,j):=st;rw[F] at j;exact wpAny_pyNext_items_end Ā j U (zl á) λh' eb=>⟨Á,I.turned (t':=s.toks) (λb O z e=>eb b O z e) f0 f1 f3 f4 f5⟩
 self:=λA i s Q E st h=>let ⟨_,_,e⟩:=st;PySem.W.kcp_self e h
end
def adN(td:TE):TI:=λσ H R=>td σ H λx H1=>∃d o kvs,x=.ref d/\H1 d=Α ϯ/\R (B6 d o kvs) H1
def adO(td:TE):TI:=λσ H R=>td σ H λx H1=>∃d o kvs,x=.ref d/\H1 d=Α ϯ/\R (wu d o kvs) H1
section
variable{X:Cx}{tg e:Expr}{td:TE}{i4 gh:Pos}
def adP(O:ϥ td)(Y:attributeBase e "values" X.env ϛ=eval e X.env:=by rfl)(Z:(i4.endLine==gh.line)=true:=by rfl):PI X tg (.Call (.Attribute e "values" i4) [] [] gh) (adN td):=by
 intro pins s σ H R I h;apply Iu (T:="dict") (id:="dict.values") Y Á Z F.plainAttrs_dict F.slot_dict_values F.type_dict_values (aL (O pins s σ H _ I h) λu j ⟨x,H1,z,W,d,o,kvs,ex,hd,q⟩=>?_);subst ex;obtain rfl:u=Value.ref d:=W;let(hs,B8,hx,es,ep,vs,U,hsz,kv,m):=z.zQ hd;let hl:kvs.L=vs.L:=Paired.length kv;apply(m.dictOf.typeIs,m.dictOf.mapOf.noDict,?_);let J:Ã H1 {j with heap:=j.o {cls:=.type "dict_values",data:=.fields #[.ref d]}}:=z.kept (t':=j.toks) λb ob q=>cf _ q;let fin:wpAny É X.A (pyIter (.ref j.Z)) Äy X.xe {j with heap:=j.o {cls:=.type "dict_values",data:=.fields #[.ref d]}}:=by
  apply wpAny_pyIter_values (d:=d) (knd:=e9 X.prog X.w) ⟨_,eY _ Á,Á,Á⟩ (m.push _) (E2 (tk:=j.toks) J _ (adL _ U) ⟨_,eY _ Á,Á,?_⟩ q);symm
 show wpAny _ _ (callWith gh (.builtin "dict.values") [.ref d] [] []) _ X.xe j;exact method_meetsIn F.slot_dict_values F.entry_dict_values Á (PySem.evalArgs_none ⟨Á,m.dictOf.typeIs,F.args_dict_values_1 _,_,meets_dict_values ĉ d hs,⟨vs,m.dictOf⟩,fin⟩)
def Ss{ny:List Expr}{kk:Nat}{mQ:Pos}(O:ϥ td)(Z:attributeBase e "items" X.env ϛ=eval e X.env:=by rfl)(x3:(i4.endLine==gh.line)=true:=by rfl):
  PI X į (.Call (.Attribute e "items" i4) [] [] gh) (adO td):=by
 intro pins s σ H R I h;apply Iu (T:="dict") (id:="dict.items") Z Á x3 F.plainAttrs_dict F.slot_dict_items F.type_dict_items (aL (O pins s σ H _ I h) λu j ⟨x,H1,z,Y,d,o,kvs,ex,hd,q⟩=>?_);subst ex;obtain rfl:u=Value.ref d:=Y;let(hs,B8,hx,es,ep,vs,W,hsz,kv,m):=z.zQ hd;let U:kvs.L=vs.L:=Paired.length kv;apply(m.dictOf.typeIs,m.dictOf.mapOf.noDict,?_);let J:Ã H1 {j with heap:=j.o {cls:=.type "dict_items",data:=.fields #[.ref d]}}:=z.kept (t':=j.toks) λb ob q=>cf _ q;let fin:wpAny É X.A (pyIter (.ref j.Z)) (BI X pins σ į R) X.xe {j with heap:=j.o {cls:=.type "dict_items",data:=.fields #[.ref d]}}:=by
  apply wpAny_pyIter_items (d:=d) (knd:=e9 X.prog X.w) ⟨_,eY _ Á,Á,Á⟩ (m.push _) (E2 (tk:=j.toks) J _ (adM _ W) ⟨.none,.none,?_⟩ q);rw[U];exact eY _ Á
 show wpAny _ _ (callWith gh (.builtin "dict.items") [.ref d] [] []) _ X.xe j;exact method_meetsIn F.slot_dict_items F.entry_dict_items Á (PySem.evalArgs_none ⟨Á,m.dictOf.typeIs,F.args_dict_items_1 _,_,meets_dict_items ĉ d hs,⟨vs,m.dictOf⟩,fin⟩)
end
def wx(K:FR)(a:Addr):It:=
 ⟨λi H=>∃(xs:ay)(x:V),ã a xs/\xs[i]? =Α x,λi H v H'=>∃T x,v=.ref T/\H T=Β/\H'=upd H T (.tup [.int (i:Nat),x])/\∀xs,ã a xs->xs[i]? =Α x,λi H=>∃xs:ay,ã a xs/\xs.L<=i⟩
def E5{e it:Addr}{Z:Prop}(st:(∃j,IsEnum h e it c j)/\(∃o,h.I it=Α o/\o.cls=C/\o.data=.fields vs)/\Z):∀b∈[e,it],∃o,h.I b=Α o/\∀v,o.data≠ .cell v:=λb z=>by
 let((j,F),(o,J,hc,hd),_):=st;let m:b=e\/b=it:=À z
 rcases m with rfl|rfl
 .exact(_,F,λv q=>nomatch q)
 .exact(o,J,λv q=>by rw[hd] at q;cases q)
def adQ{P:Pg}{w:Wd}{K:FR}{ny:List Expr}{kk:Nat}{mQ:Pos}(a e it:Addr):
  Turn P w K į (wx K a) [e,it] e (λi h=>(∃F,IsEnum h e it ((i:Nat):Int) F)/\h.IsListIter it a i/\e≠it) where
 mem:=by simp
 obj:=λi h=>E5
 keep:=λi h h' st k=>let ⟨⟨F,j⟩,hi,aU⟩:=st;⟨⟨F,k e Ä _ j⟩,hi.at λo q=>k it Ä o q,aU⟩
 item:=by
  show Ó;subst hP hw hK;let W:=E5 st;let((F,j),O,aU):=st;let(xs,x,J,U):=hg;let(aj,Y,p,hz):=I.list J;let(u,hu,ru):=Y.get U;let lH:e<s.Z:=cq j;apply wpAny_pyNext_enum_item j O p.isList (x:=u) (À hu) aU λh' ho IT hT hsz hk=>?_;apply(_,Á,arN (s:={s with heap:=h',toks:=s.toks+1}) ho λqk Ca Z=>?_);let uZ:qk.I s.Z=Α {cls:=.type "tuple",data:=.seq #[.int i s.toks,u]}:=(Z.2 _ (qS lH)).R hT;let ⟨I1,n1⟩:=E4 (x:=.int (i:Nat)) (t':=s.toks+1) W hf (λb W m q=>(Z.2 b (λz=>m (by simp[z]))).R (hk b W (λz=>m (by simp[z])) (λz=>m (by simp[z])) q)) I uZ ⟨_,rfl⟩ ru;exact(.ref s.Z,_,I1,Á,⟨_,x,Á,I.ax.fresh (bw _),Á,λys hy=>by rw[I.BF hy J];exact U⟩,⟨⟨u,by rw[show((i+1:Nat):Int)=(i:Int)+1 by rfl];exact Ca⟩,IT.at λo q=>(Z.2 it Åp).R q,aU⟩,n1)
 done:=by
  show Ó;subst hP hw hK;let((F,j),O,aU):=st;let(xs,J,U):=hg;let(aj,Y,p,hz):=I.list J;show ë;let hl:=Y.L;exact wpAny_pyNext_enum_end Ā j O p.isList (by simp;omega) λh' eb=>⟨Á,I.turned (t':=s.toks) (λb o m q=>eb b o m q) f0 f1 f3 f4 f5⟩
 self:=λA i s Q E st h=>let ⟨⟨_,j⟩,_⟩:=st;Ql j h
def adR(K:FR)(ta:TA):TI:=λσ H R=>ta σ H λvs H1=>∃a xs,vs=[.ref a]/\aa K H1 a xs/\R (wx K a) H1
def lI(hg:Gl X "enumerate")(hm:X.mg "enumerate"=Β)(J:PA X [e] ta)(hs:starEach [e] X.env=[(false,eval e X.env)]:=by rfl):
  PI X į (.Call (.Name "enumerate" p) [e] [] pos) (adR X.K ta):=by
 intro pins s σ H R I h;apply Call_ (Àp boot_enumerate (D4 (aL (J pos pins s σ H _ I h) λus j ⟨vs,H1,I1,Z,Y⟩=>?_) hs Á));let(a,xs,ex,U,q):=Y;subst ex;cases Z with
 |cons r rr=>
  cases rr;cases r;let(aj,rv,W,hz):=I1.list U;apply call_enumerate_list W.isList λh' m F hsz hk=>Ql m ?_;let z:Ã H1 {j with heap:=h'}:=I1.kept (t':=j.toks) hk;apply(j.Z+1,[j.Z+1,j.Z],_,_,H1,Á,z,adQ a (j.Z+1) j.Z,⟨⟨.none,m⟩,F,Nat.succ_ne_self _⟩,λb O=>?_,q);let e':b=j.Z+1\/b=j.Z:=À O
  let i5:j.Z<=b:=by
   grind
  exact I1.vX i5 Çh
def adS:bootBuiltins "zip"=Α (.type "zip"):=by decide+kernel
def Cb(K:FR)(a b:Addr):It:=
 ⟨λi H=>∃(xs ys:ay)(x y:V),ã a xs/\ã b ys/\xs[i]? =Α x/\ys[i]? =Α y,
  λi H v H'=>∃T x y,v=.ref T/\H T=Β/\H'=upd H T Çj/\(∀xs,ã a xs->xs[i]? =Α x)/\∀ys,ã b ys->ys[i]? =Α y,
  λi H=>∃xs ys:ay,ã a xs/\ã b ys/\(xs.L<=i\/ys.L<=i)⟩
def Su{z TI TO j m:Addr}(st:IsZip h z TI TO .none/\IsPair h TI (.ref j) (.ref m)/\(∃x y,IsPair h TO x y)/\h.IsListIter j a i/\h.IsListIter m b i):∀b∈[z,TI,TO,j,m],∃o,h.I b=Α o/\∀v,o.data≠ .cell v:=λc hc=>by
 let(hz,sZ,(x,y,u0),(Y,U,_,F),(Z,W,_,J)):=st;let O:c=z\/c=TI\/c=TO\/c=j\/c=m:=À hc
 rcases O with rfl|rfl|rfl|rfl|rfl
 .exact(_,hz,λv q=>nomatch q)
 .exact(_,sZ,λv q=>nomatch q)
 .exact(_,u0,λv q=>nomatch q)
 .exact(Y,U,λv q=>by rw[F] at q;cases q)
 .exact(Z,W,λv q=>by rw[J] at q;cases q)
def adT{P:Pg}{w:Wd}{K:FR}{ny:List Expr}{kk:Nat}{mQ:Pos}{a b z TI TO F J:Addr}(D:ZipApart z TI TO F J a b):
  Turn P w K į (Cb K a b) [z,TI,TO,F,J] z (λi h=>IsZip h z TI TO .none/\IsPair h TI (.ref F) (.ref J)/\(∃x y,IsPair h TO x y)/\h.IsListIter F a i/\h.IsListIter J b i) where
 mem:=by simp
 obj:=λi h=>Su
 keep:=λi h h' st k=>by
  let(hz,O,(x,y,Y),W,h2):=st;exact(k z Ä _ hz,k TI Ä _ O,⟨x,y,k TO Ä _ Y⟩,W.at λo q=>k F Ä o q,h2.at λo q=>k J Ä o q)
 item:=by
  show Ó;subst hP hw hK;let ob:=Su st;let(hz,O,(x0,y0,Y),W,h2):=st;let(xs,ys,x,y,Z,zS,hx,hy):=hg;let(aj,rv,p,_):=I.list Z;let(nU,zT,p2,_):=I.list zS;let(u,hu,ru):=rv.get hx;let(u2,JD,JE):=zT.get hy;let rG:z<s.Z:=cq hz;apply wpAny_pyNext_zip_item D hz O Y W h2 p.isList p2.isList (x:=u) (y:=u2) (À hu) (À JD) λh' z' TO' h1' h2' hT hsz hk=>?_;apply(_,Á,wpAny_letOwnedTupleGo_zip (s:={s with heap:=h'}) z' λqk z'' U=>?_);let uZ:qk.I s.Z=Α {cls:=.type "tuple",data:=.seq #[u,u2]}:=(U.2 _ (qS rG)).R hT;let ⟨I1,n1⟩:=E4 (t':=s.toks) ob hf (λc o m q=>(U.2 c (λj=>m (by simp[j]))).R (hk c o (λj=>m (by simp[j])) (λj=>m (by simp[j])) (λj=>m (by simp[j])) (λj=>m (by simp[j])) q)) I uZ ru JE;exact(.ref s.Z,_,I1,Á,⟨_,x,y,Á,I.ax.fresh (bw _),Á,λl hl=>by rw[I.BF hl Z];exact hx,λl hl=>by rw[I.BF hl zS];exact hy⟩,⟨z'',(U.2 _ D.TIz).R (hk _ _ D.TIz D.TITO D.TIi1 D.TIi2 O),⟨u,u2,(U.2 _ D.TOz).R TO'⟩,h1'.at λo q=>(U.2 _ D.i1z).R q,h2'.at λo q=>(U.2 _ D.i2z).R q⟩,n1)
 done:=by
  show Ó;subst hP hw hK;let(hz,O,(x0,y0,Y),W,h2):=st;let(xs,ys,Z,zS,E6):=hg;let(aj,rv,p,_):=I.list Z;let(nU,zT,p2,_):=I.list zS;let l1:=rv.L;let l2:=zT.L;let he:aj.toArray[i]? =Β\/nU.toArray[i]? =Β:=by
   rcases E6 with q|q
   .exact .inl (by simp;symm)
   .exact .inr (by simp;symm)
  exact wpAny_pyNext_zip_end Ā D hz O Y W h2 p.isList p2.isList he λh' hk=>⟨Á,I.adD (t':=s.toks) (ch:=[z,TI,TO,F,J]) (λc o m q=>
   hk c o (λj=>m (by simp[j])) (λj=>m (by simp[j])) (λj=>m (by simp[j])) (λj=>m (by simp[j])) q) hf⟩
 self:=λA i s Q E st h=>wpAny_pyIter_zip st.1 h
def adY(K:FR)(ta:TA):TI:=λσ H R=>ta σ H λvs H1=>∃a b xs ys,vs=[.ref a,.ref b]/\aa K H1 a xs/\aa K H1 b ys/\R (Cb K a b) H1
def Sv{X:Cx}{e m:Expr}{ta:TA}{p pos mQ:Pos}{ny:List Expr}{kk:Nat}(hg:Gl X "zip")(hm:X.mg "zip"=Β)(Y:PA X [e,m] ta)(hs:starEach [e,m] X.env=(false,eval e X.env)::starEach [m] X.env:=by rfl) (O:(backTo pos (starEach [m] X.env)).any (·.1)=false:=by rfl):
  PI X į (.Call (.Name "zip" p) [e,m] [] pos) (adY X.K ta):=by
 intro pins s σ H R I h;apply Call_ (Àp adS (D4 (aL (Y pos pins s σ H _ I h) λus j ⟨vs,H1,I1,r1,q1⟩=>?_) hs O));let(a,b,xs,ys,ex,zR,zS,q):=q1;subst ex;cases r1 with
 |cons r z=>
  cases z with
  |cons r' z=>
   cases z;cases r;cases r';let(aj,rv,F,_):=I1.list zR;let(nU,zT,p2,_):=I1.list zS;let Z:a<j.Z:=F.lt;let lb:b<j.Z:=p2.lt;apply call_zip_2 F.isList p2.isList λh' hz sZ u0 U h2 hsz hk=>wpAny_pyIter_zip hz ?_;let J:Ã H1 {j with heap:=h'}:=I1.kept (t':=j.toks) hk;apply(j.Z+4,[j.Z+4,j.Z+2,j.Z+3,j.Z,j.Z+1],_,_,H1,Á,J,adT (PySem.W.ktu_apart j.Z a b Z lb),⟨hz,sZ,⟨_,_,u0⟩,U,h2⟩,λc zU=>?_,q);let e':c=j.Z+4\/c=j.Z+2\/c=j.Z+3\/c=j.Z\/c=j.Z+1:=À zU
   let i5:j.Z<=c:=by
    grind
   exact I1.vX i5 Çh
end L2
namespace Bits
open PySem PyProof.Rows
end Bits
namespace TL
open PySem PySem.Builtin PySem.Builtin.Str PySem.StrLaws
end TL
namespace L2
open PySem PySem.Spec PyProof.Rows
section
variable{X:Cx}{pins:bJ}{σ:St}{H:Hp}{s:Sh}{Q:VK}
end
end L2
namespace Att
open PySem PySem.W PySem.Calls PyProof.Rows
end Att
namespace L2
open PySem PySem.Spec PyProof.Rows
abbrev aF:nQ:=λ_ _ _ _ _ _=>False
abbrev E0:XK:=λ_ _ _=>False
def tj:uR aF X E0:=λ_ _ _ _ _ _ _ h=>h.elim
structure bx(K:FR)(x cY:Str)(st:Stmt)(f:Addr)(fd:FD):Prop where
 ex:∃(oc:Value)(od:OA)(kV i3 pm:Value)(an:OA)(aI ct:Value)(nG:AO),
  fd=PySem.W.fnOf x cY (uK st) Ån Ák .none kV i3 pm an aI ct/\K.Q f=Α ⟨oc,od,.func fd,nG⟩/\PySem.W.codeIn K aI cY=true
 kp:PySem.W.keepIn K Ć=true
section
variable{P:Pg}{w:Wd}{K:FR}{mg:MG}{base:Heap}
def bx.ok{x cY:Str}{st:Stmt}{f:Addr}{fd:FD}{N ps:LS}{k:Nat}{sp:Sp}(F:bx K x cY st f fd)(S:bQ N ps Ák)(U:∀(aI:Value)(A:Around)(outer:List Env)(s:Sh)(H:Hp)(vs:ay)(Q:VK)(E:XK),dJ k Ł->sp vs H Q E->
   ∃t,lx (ϗ N cY Ák f aI A outer s H E).vW Ån t/\t {nx:=λ_ H'=>Q .aK H',rt:=Q} Ż H) (len:∀vs H Q E,sp vs H Q E->vs.L=ps.L:=by intro _ _ _ _ h;first|(cases h;subst_vars;rfl)|(repeat first|(let(rfl,_):=h;rfl)|let(_,h):=h)):Ì aF (k+1) f fd ps sp:=by
 let(W,od,kV,J,pm,z,aI,ct,O,rfl,lk,m):=F.ex;apply Rm lk m S len λA outer s H vs Q E hr j=>?_;let(t,h,q):=U aI A outer s H vs Q E hr j;exact(t,h.vW,q)
def bx.binds{x cY:Str}{st:Stmt}{f:Addr}{fd:FD}{ps:LS}(F:bx K x cY st f fd)(h:∀(kV i3 pm:Value)(an:OA)(aI ct:Value)(us:LV),us.L=ps.L->bindArgs Ğ ⟨us,[]⟩=pure Àq):Binds K fd ps []:=by
 let(O,od,kV,i3,pm,an,aI,ct,m,rfl,lk,j):=F.ex;exact .all (h kV i3 pm an aI ct)
def nV{x cY:Str}{st:Stmt}{f:Addr}{O:Value}{od an:OA}{j:AO}{kV i3 pm aI ct:Value}(l:K.Q f=Α ⟨O,od,.func Ğ,j⟩)(c:PySem.W.codeIn K aI cY=true) (k:PySem.W.keepIn K Ć=true):bx K x cY st f Ğ:=⟨⟨O,od,kV,i3,pm,an,aI,ct,j,rfl,l,c⟩,k⟩
end
def zV(hr:dJ k A):A.units+1<cLine:=oN (ZC (by decide:1<=64) _) hr.units
def pv(i:Nat)(j:X.N[i]? =Α x:=by rfl)(m:xM X.env.scope x:=by first|exact Or.inl Á|exact Or.inr (Or.inl Á)|exact Or.inr (Or.inr Á))(hd:(x==("__debug__":Str))=false:=by decide)(z:(x==("__classdict__":Str))=false:=by decide):PE X Àe (aA i):=QS j m hd z
def nW{A B:Prop}(h:B):if false=true then A else B:=by
 symm
def lJ{A B:Prop}(h:A):if true=true then A else B:=by
 symm
def bc{c A B:Prop}[Decidable c](j:c->A)(h2:¬c->B):if c then A else B:=by
 symm
def ai(H H':Hp):Prop:=∀b o,H b=Α o->H' b=Α o
def ai.refl(H:Hp):ai H H:=λ_ _ h=>h
def ai.trans(a:ai H H1)(b:ai H1 H2):ai H H2:=λc o h=>b c o (a c o h)
theorem ai.free(e:ai H H')(h:H' l=Option.none):H l=Option.none:=by
 cases q:H l with
 |none=>rfl
 |some o=>
  rw[e l o q] at h;cases h
def ai.seq{K:FR}{H H':Hp}{a:Addr}{xs:ay}(e:ai H H')(h:ã a xs):aa K H' a xs:=by
 rcases h with (h|⟨o,h⟩)|h
 .exact .inl (.inl (e _ _ h))
 .exact .inl (.inr ⟨o,e _ _ h⟩)
 .exact .inr h
section
variable{κ:Type}[DecidableEq κ]
theorem JT{l:List κ}:∀{k:κ},l.Nodup->¬k∈l->(l++[k]).Nodup:=by
 induction l with
 |nil=>
  intro k _ _;simp
 |cons a r z=>
  intro k h hk;let(j,h2):=jZ.mp h;show(a::(r++[k])).Nodup;apply jZ.mpr ⟨λm=>?_,z h2 λm=>hk (aV.mpr (Or.inr m))⟩;rcases gM.mp m with q|q
  .exact j q
  .exact hk (aV.mpr (Or.inl (lg.mp q).symm))
end
def ai.made(nx:H x=Option.none)(nd:H dx=Option.none)(k:∀b o,(upd (upd H dx Åg) x Âl) b=Α o->b≠x->H1 b=Α o):ai H H1:=λb o e=>
 k b o (by rw[ao (eO e nx),ao (eO e nd)];exact e) (eO e nx)
end L2
namespace L2
open PySem PySem.Spec PyProof.Rows PySem.XL
def one(x:Addr)(P:Obj->Prop):HO:=.ext λh=>∃o,h.I x=Α o/\P o
def tm(e:h.I x=Α o)(p:P o):fO Pr w H h x (one x P):=
 ⟨⟨o,e,p⟩,⟨o,e⟩,λ_ _ ⟨o,e,p⟩ k=>⟨o,k o e,p⟩⟩
def ql(ax:dY Pr w H h)(e:H x=Α (one x P)):∃o,h.I x=Α o/\P o:=(ax x _ e).1
def JU(C:Addr)(od:OA)(j:Value)(o:Obj):Prop:=o.cls=.ref C/\o.dict=od/\∃vs,o.data=.fields vs/\vs[1]? =Α j
def exc(C:Addr)(od:OA)(j:Value)(x:Addr):HO:=one x (JU C od j)
def Sw(fl:Value)(o:Obj):Prop:=∃ts,o.data=.fields ts/\ts[3]? =Α fl
def ent(fl:Value)(T:Addr):HO:=one T (Sw fl)
def u4(d:Addr)(fs:List (Str×V)):HO:=.ext λh=>∃mA,h.Ns1 d mA/\(∀f,j3 Ái (mA f))/\Within mA (fs.M (·.1))/\fs.L<=1000
def Sx(n:h.Ns1 d mA)(r:∀f,j3 Ái (mA f))(W:Within mA (fs.M (·.1)))(l:fs.L<=1000):fO Pr w H h d (u4 d fs):=by
 apply(⟨mA,n,r,W,l⟩,?_,λj h2 ⟨m,n,r⟩ k=>⟨m,n.at k,r⟩);let(o,_,_,e,_):=n;symm
def adZ(ax:dY Pr w H h)(e:H d=Α (u4 d fs)):∃mA,h.Ns1 d mA/\(∀f,j3 Ái (mA f))/\Within mA (fs.M (·.1))/\fs.L<=1000:=(ax d _ e).1
abbrev u5:LV:=[.type "Exception",.type "BaseException",.type "object"]
inductive Sy(K:FR)(C N:Addr):Prop
 |mk (od:OA) (nm qn:Str) (bs sub:LV) (sn:LS) (ab:Bool) (col:Option Bool) (e0 e1 e2 e3 e5:Option Value) (_:K.Q C=Α ⟨.type "type",od,.cls ⟨nm,bs,.ref C::u5,N,qn,true,sn,sub,ab,col,false⟩,#[e0,e1,e2,e3,some (.builtin "Exception.__new__"),e5]⟩) (_:PySem.W.nsOkIn K N=true)
structure XC(K:FR)(C N:Addr):Prop where
 cl:Sy K C N
 ga:PySem.W.nsIn K N "__getattribute__"=Α none
 gt:PySem.W.nsIn K N "__getattr__"=Α none
 sa:PySem.W.nsIn K N "__setattr__"=Α none
structure E7(K:FR)(N:Addr)(f:Str):Prop where
 own:PySem.W.nsIn K N f=Α none
 base:typeLookup (.type "Exception") f=pure none
def ad0{K:FR}{h:Heap}{N:Addr}{mg:MG}{n:Str}{v:Value}(X:K.In h)(G:h.Ns N mg)(e:PySem.W.nsIn K N n=Α Ãq):mg n=Α v:=by
 let(o,es,ep,m,hd,_,j):=G;delta PySem.W.nsIn at e;split at e
 .rename_i c d F J sl q;let:=X _ _ q;rw[m] at this;cases this;cases hd;split at e
  .rename_i y z;rw[<-j];ext nsFind findBy;symm
  .symm
 .cases e
def XC.obj{K:FR}{C N:Addr}(c:XC K C N):∃nm q bs sn sub ab col dd k0 k1 k2 k3 k5,∀h:Heap,K.In h->h.I C=Α (excClassObj nm q C N bs u5 true sn sub ab col dd k0 k1 k2 k3 k5 "Exception.__new__")/\h.Ns N (h.nsMap N)/\
  h.nsMap N "__getattribute__"=Β/\h.nsMap N "__getattr__"=Β/\h.nsMap N "__setattr__"=Β:=by
 let(dd,nm,m,bs,sub,sn,ab,col,k0,k1,k2,k3,k5,j,ax):=c.cl;exact(nm,m,bs,sn,sub,ab,col,dd,k0,k1,k2,k3,k5,λh X=>⟨X _ _ j,.of_isNs (PySem.W.isNs_of_in X ax),PySem.W.nsMap_none_of_in X ax c.ga,PySem.W.nsMap_none_of_in X ax c.gt,PySem.W.nsMap_none_of_in X ax c.sa⟩)
def Sz(p:JU C od tv o)(T:Addr):JU C od Ų (o.mapFields (·.setIfInBounds 1 Ų)):=by
 let(F,h2,vs,j,J):=p;let z:=(uE.mp J).1;apply((P3 _ _).R F,?_,_,sv j _,by simp[z]);let(c,d,m,sl):=o;cases m <;> first|exact h2|cases j
def E8(S:LA)(ax:Ħ h)(same:∀b,b∉S->H2 b=H b)(m:∀b,b∈S->H b=Β\/∃φ,H b=Α (.ext φ)) (new:∀b,b∈S->∀u,H2 b=Α u->fO P w H2 h2 b u)(keep:∀b o u,H b=Α u->b∉S->h.I b=Α o->h2.I b=Α o):dY P w H2 h2:=λb u q=>by
 by_cases j:b∈S
 .symm
 .rw[same b j] at q;let F:∀c v,H c=Α v->(∀φ,v≠ .ext φ)->c∉S:=λc v e ne z=>by
   grind
  apply(ax b u q).nH (λc v hc g=>?_) (λc e=>?_) λc xs e=>?_
  .grind
  .symm
  .symm
def E9{fs:LA}{H F:Hp}{h h2:Heap}(S:LA)(same:∀b,b∉S->F b=H b)(W:∀b,b∈S->(H b=Β/\h.I b=Β)\/∃φ,H b=Α (.ext φ))(keep:∀b o,b∉S->b∉fs->h.I b=Α o->h2.I b=Α o) (slot:∀b o,b∉S->b∈fs->h.I b=Α o->∃sl,h2.I b=Α {o with slots:=sl})(there:∀b,b∈S->∀o,h.I b=Α o->∃O,h2.I b=Α O):Un fs [] H F h h2:=by
 let j:∀b o,h.I b=Α o->H b=Β->b∉S:=λb o e n z=>by
  grind
 let J:∀c v,H c=Α v->(∀φ,v≠ .ext φ)->c∉S:=λc v e ne z=>by
  grind
 apply⟨λb o e n m _=>keep b o (j b o e n) m e,λb o e n m _=>slot b o (j b o e n) m e,λb o e n _=>by rw[same b (j b o e n)];exact n,λb o e _=>?_,
  λb xs e=>by rw[same b (J b _ e (λφ z=>by cases z))];exact e,λb o u e=>by rw[same b (J b _ e (λφ z=>by cases z))];exact e,λb ps e=>⟨#[],by rw[same b (J b _ e (λφ z=>by cases z)),e];simp⟩⟩
 by_cases U:b∈S
 .symm
 .grind
def Kp(a:Addr)(H0 H:Hp):Prop:=∀b o,H0 b=Α o->b≠a->H b=Α o
def JW(H0:Hp)(a C:Addr)(od:OA)(H:Hp):Prop:=∃j,H a=Α (exc C od j a)/\Kp a H0 H/\(j=.none\/∃T fl,j=.ref T/\T≠a/\H0 T=Β/\H T=Α (ent fl T))
def rH(fl:Value)(H0:Hp)(a C:Addr)(od:OA)(H:Hp):Prop:=∃T,H a=Α Çr/\Kp a H0 H/\T≠a/\H0 T=Β/\H T=Α (ent fl T)
def rH.at_(f:rH fl H0 a C od H):JW H0 a C od H:=
 let ⟨T,h1,h2,h3,h4,h5⟩:=f
 ⟨_,h1,h2,.inr ⟨T,fl,rfl,h3,h4,h5⟩⟩
def ad1(h:e.frame=e'.frame):noteFrame x e=noteFrame x e':=by
 ext noteFrame PySem.frameOf;rw[h]
def tq{x:Addr}{P:Obj->Prop}{H:Hp}(e:H x=Α (one x P)):∃φ,H x=Α (.ext φ):=⟨_,e⟩
section
variable{X:Cx}{pins:bJ}{σ:St}{H H0:Hp}{s:Sh}{A:Around}{E:VP}{a C:Addr}{od:OA}
def Fb{Q:Unit->Shared->Prop}{env en:Env}{outer:List Env}{L:Addr}(oU:X.stack=env::outer)(U:env.frame=Α L)(JX:en.frame=Α L)(hA:A.frames=Α X.stack)(I:Ã H s)(f:JW H0 a C od H)(k:∀s' H',Ã H' s'->rH Æq H0 a C od H'->Q () s'):wpAny É A (noteFrame ā en) Q E s:=by
 rw[ad1 (JX.R U.symm)];let(tv,j,kp,f):=f;let(o,ge,pe):=ql I.ax j;let(q1,q2,vs,q3,q4):=id pe;let ff:s.H.FunFrames X.base (env::outer):=by rw[<-oU];exact I.stack
 let zG:A.frames=Α (env::outer):=by rw[<-oU];exact hA
 let SA:nJ X.stack=(env::outer).filterMap (·.frame):=by rw[oU];rfl
 rcases f with rfl|⟨T0,fl,rfl,h1,h2,F⟩
 .apply aav (z:=a) zG ff U ge q3 q4 λh' T n=>?_;rw[<-SA] at n;let O:=I.ax.fresh n.new;let gT:=P6 n.new;let Z:=Sz pe T;let J:∀b,b∉[a,T]->(ų) b=H b:=λb nb=>by
   let:b≠a/\b≠T:=À nb
   rw[ao this.2,ao this.1]
  let W:(ų) T=Α ű:=aq;let m:(ų) a=Α Çr:=by rw[ao (dj n.ne),aq]
  let(oT,ts,t1,t2,t3):=n.ent;let yb:H0 T=Β:=by
   cases e:H0 T with
   |none=>rfl
   |some u=>rw[kp T u e n.ne] at O;cases O
  apply k {s with heap:=h'} ų (I.vS (s':={s with heap:=h'}) (ch:=[]) Á (E9 [a,T] J đ Ť Ť λb hb o g=>?_) (E8 [a,T] I.ax J đ Àf λb o u hb nb g=>?_) I.bare ļ)
   ⟨T,m,λb o e nb=>?_,n.ne,yb,W⟩
  .let:b=a\/b=T:=by simpa using hb
   rcases this with rfl|rfl
   .exact .inr (tq j)
   .symm
  .let:b≠a/\b≠T:=by simpa using nb
   exact n.keep b o nf this.1 this.1 g
  .let:b≠a/\b≠T:=by simpa using nb
   exact n.slot b o nf this.1 this.1 g
  .let:b=a\/b=T:=by simpa using hb
   rcases this with rfl|rfl
   .exact(_,n.exc)
   .symm
  .let:b=a\/b=T:=by simpa using hb
   rcases this with rfl|rfl
   .exact .inr (tq j)
   .symm
  .let:b=a\/b=T:=by simpa using hb
   rcases this with rfl|rfl
   .rw[m] at hu;cases hu;exact tm n.exc Z
   .rw[W] at hu;cases hu;exact tm t1 ⟨ts,t2,t3⟩
  .let:b≠a/\b≠T:=by simpa using nb
   exact n.keep b o (λz=>by rw[I.Eu b z] at hb;cases hb) this.1 this.1 g
  .rw[ao ì,ao nb];exact kp b o e nb
 .cases Y:(fl==rawInt L) with
  |false=>
   let(oz,gz,zs,dz,z3):=ql I.ax F;apply aaw zG ff U ge q3 q4 gz dz z3 Y h1 λh' T n tz kz=>?_;rw[<-SA] at n;let O:=I.ax.fresh n.new;let gT:=P6 n.new;let Z:=Sz pe T;let J:∀b,b∉[a,T,T0]->(æ) b=H b:=λb nb=>by
    let:b≠a/\b≠T/\b≠T0:=À nb
    rw[ao this.2.1,ao this.1,ao this.2.2]
   let W:(æ) T=Α ű:=aq;let m:(æ) a=Α Çr:=by rw[ao (dj n.ne),aq]
   let hT0:(æ) T0=Α (ent .none T0):=by rw[ao (dj tz),ao h1];exact aq
   let(oT,ts,t1,t2,t3):=n.ent;let(oz',zs',z1',z2',z3'):=kz;let yb:H0 T=Β:=by
    cases e:H0 T with
    |none=>rfl
    |some u=>rw[kp T u e n.ne] at O;cases O
   apply k {s with heap:=h'} æ (I.vS (s':={s with heap:=h'}) (ch:=[]) Á (E9 [a,T,T0] J đ Ť Ť λb hb o g=>?_) (E8 [a,T,T0] I.ax J đ Àf λb o u hb nb g=>?_) I.bare ļ)
    ⟨T,m,λb o e nb=>?_,n.ne,yb,W⟩
   .let:b=a\/b=T\/b=T0:=by simpa using hb
    rcases this with rfl|rfl|rfl
    .exact .inr (tq j)
    .symm
    .exact .inr (tq F)
   .let:b≠a/\b≠T/\b≠T0:=by simpa using nb
    exact n.keep b o nf this.1 this.2.2 g
   .let:b≠a/\b≠T/\b≠T0:=by simpa using nb
    exact n.slot b o nf this.1 this.2.2 g
   .let:b=a\/b=T\/b=T0:=by simpa using hb
    rcases this with rfl|rfl|rfl
    .exact(_,n.exc)
    .symm
    .symm
   .let:b=a\/b=T\/b=T0:=by simpa using hb
    rcases this with rfl|rfl|rfl
    .exact .inr (tq j)
    .symm
    .exact .inr (tq F)
   .let:b=a\/b=T\/b=T0:=by simpa using hb
    rcases this with rfl|rfl|rfl
    .rw[m] at hu;cases hu;exact tm n.exc Z
    .rw[W] at hu;cases hu;exact tm t1 ⟨ts,t2,t3⟩
    .rw[hT0] at hu;cases hu;exact tm z1' ⟨zs',z2',z3'⟩
   .let:b≠a/\b≠T/\b≠T0:=by simpa using nb
    exact n.keep b o (λz=>by rw[I.Eu b z] at hb;cases hb) this.1 this.2.2 g
   .rw[ao ì,ao nb,ao ì];exact kp b o e nb
  |true=>
   let Y:=eq_of_beq Y;subst Y;let(oz,gz,zs,dz,z3):=ql I.ax F;exact wpAny_noteFrame_inFlight U ge q3 q4 gz dz z3 (k s H I ⟨T0,j,kp,h1,h2,F⟩)
def Cd{Q:Unit->Shared->Prop}{fl:Value}(fr:OA)(I:Ã H s)(f:rH fl H0 a C od H)(k:∀s' H',Ã H' s'->rH (fr.elim .none λf=>rawInt f) H0 a C od H'->Q () s'):wpAny É A (setFlight ā fr) Q E s:=by
 let(T,W,kp,aU,Y,m):=f;let(o,ge,q1,q2,vs,q3,q4):=ql I.ax W;let(oz,O,zs,j,z3):=ql I.ax m;let Z:3<zs.u:=(uE.mp z3).1;ext setFlight;apply au (vI ge q3 q4 ?_);rw[af (show(Value.ref T !=Value.none)=true by simp)];apply su O j Z ?_;let F:∀b,b≠T->(s.H.update T (Obj.mapFields (·.setIfInBounds 3 (fr.elim .none λf=>rawInt f)))).I b=s.U b:=λb n=>uD _ _ (dj n);let J:(s.H.update T (Obj.mapFields (·.setIfInBounds 3 (fr.elim .none λf=>rawInt f)))).I T=_:=xA _ O (DZ (sv j _));let pT:Sw (fr.elim .none λf=>rawInt f) (oz.mapFields (·.setIfInBounds 3 (fr.elim .none λf=>rawInt f))):=⟨_,sv j _,by simp[Z]⟩;let U:∀b,b∉[T]->(ϣ (ent (fr.elim .none λf=>rawInt f) T)) b=H b:=λb nb=>by
  let:b≠T:=À nb
  rw[ao this]
 apply k {s with heap:=s.H.update T (Obj.mapFields (·.setIfInBounds 3 (fr.elim .none λf=>rawInt f)))} (ϣ (ent (fr.elim .none λf=>rawInt f) T)) (I.vS (s':={s with heap:=s.H.update T (Obj.mapFields (·.setIfInBounds 3 (fr.elim .none λf=>rawInt f)))}) (ch:=[]) Á (E9 [T] U đ Ť Ť λb hb o g=>?_) (E8 [T] I.ax U đ Àf λb o u hb nb g=>?_) I.bare ļ)
   ⟨T,?_,λb o e nb=>?_,aU,Y,aq⟩
 .let:b=T:=by simpa using hb
  subst this;exact .inr (tq m)
 .let:b≠T:=by simpa using nb
  exact(F b this).R g
 .let:b≠T:=by simpa using nb
  exact(o.slots,(F b this).R g)
 .let:b=T:=by simpa using hb
  subst this;exact(_,J)
 .let:b=T:=by simpa using hb
  subst this;exact .inr (tq m)
 .let:b=T:=by simpa using hb
  subst this;rw[aq] at hu;cases hu;exact tm J pT
 .let:b≠T:=by simpa using nb
  exact(F b this).R g
 .rw[ao Åp];exact W
 .rw[ao (λz=>by rw[z,Y] at e;cases e)];exact kp b o e nb
end
def gD(P:Pg)(w:Wd):nQ:=λouter H s E e s'=>∃a C od H0 H',e=.ref a/\s'.os=s.os/\AllBare s'.gens/\Un (nJ outer) [] H H' s.H s'.H/\dY P w H' s'.H/\rH .none H0 a C od H'/\(∀d,od=Α d->d≠a)/\E ą od H0
def zW(X:Cx)(E:XK)(e:Value)(s:Sh):Prop:=∃a C od H0 H σ,e=.ref a/\Inv X [] σ H s/\JW H0 a C od H/\(∀d,od=Α d->d≠a)/\E ą od H0
abbrev Cx.yc(X:Cx)(E:XK):Cx:=X.iL (zW X E)
def Cx.Fd(X:Cx):Prop:=X.stack=X.env::X.outer/\X.env.frame=Α X.env.locals
def Inv.JZ(I:Ã H s):Inv X [] σ H s:=I.IW λp j=>absurd j Ä
def rJ{X:Cx}{E:XK}:uR (gD X.prog X.w) (X.yc E) E:=λpins σ H s e s' I h=>by
 let(a,C,od,H0,H',j,m,F,J,O,U,W,Y):=h;exact(a,C,od,H0,H',σ,j,(I.mv.vS (ch:=[]) m J O F ļ).JZ,U.at_,W,Y)
def SB(O:X.Fd):PassesOwn É X.A X.env (zW X E):=λe s h=>by
 let(a,C,od,H0,H,σ,rfl,I,f,m,z):=h;apply Fb O.1 O.2 O.2 I.ok.frames I f λs' H' j F=>?_;let(T,W,_):=id F;let(o,U,q1,q2,vs,Z,q4):=ql j.ax W;apply au (vI U Z q4 ?_);rw[ag (show ¬(Value.ref T==Value.none)=true from d8)];apply Cd X.env.frame j F λxV Y zX J=>?_;exact(a,C,od,H0,Y,σ,Á,zX,J.at_,m,z)
def yd{CX:nQ}{P:Pg}{w:Wd}{K:FR}{mg:MG}{base:Heap}{N:LS}{cY:Str}{scope:Scope}{f:Addr}{cd:Value}{A:Around}{outer:List Env}{s:Sh}{H:Hp}{E:XK}:
  (ı scope f cd A outer s H E).Fd:=⟨rfl,rfl⟩
def ad7{P:Pg}{w:Wd}{K:FR}{mg:MG}{base:Heap}{N:LS}{j:Str}{scope:Scope}{f:Addr}{cd:Value}{A:Around}{outer:List Env}{s:Sh}{H:Hp}{E:XK}{e:Value}{m:Sh}(h:zW (lY ę P w K mg base N j scope f cd A outer s H E) E e m):(lY ę P w K mg base N j scope f cd A outer s H E).xe e m:=by
 let(a,C,od,H0,H1,σ,rfl,I,f,O,U):=h;show wpAny _ _ (leaving _ _) _ _ m;ext leaving;apply au (Fb (X:=lY ę P w K mg base N j scope _ cd A outer s H E) yd.1 yd.2 yd.2 I.ok.frames I f λs' H' F W=>?_);apply Cd (X:=lY ę P w K mg base N j scope _ cd A outer s H E) none F W λZ Y z J=>?_;exact(a,C,od,H0,Y,Á,z.os,z.bare,z.base,z.ax,J,O,U)
def bx.rK{P:Pg}{w:Wd}{K:FR}{mg:MG}{base:Heap}{x cY:Str}{st:Stmt}{f:Addr}{fd:FD}{N ps:LS}{k:Nat}{sp:Sp}(F:bx K x cY st f fd)(S:bQ N ps Ák)(U:∀(aI:Value)(A:Around)(outer:List Env)(s:Sh)(H:Hp)(vs:ay)(Q:VK)(E:XK),dJ k Ł->sp vs H Q E->
   ∃t,lx ((lY ę P w K mg base N cY Ák f aI A outer s H E).yc E) Ån t/\t {nx:=λ_ H'=>Q .aK H',rt:=Q} Ż H) (len:∀vs H Q E,sp vs H Q E->vs.L=ps.L:=by intro _ _ _ _ h;first|(cases h;subst_vars;rfl)|(repeat first|(let(rfl,_):=h;rfl)|let(_,h):=h)):Ì ę (k+1) f fd ps sp:=by
 let(oc,od,kV,Y,pm,W,aI,ct,Z,rfl,lk,J):=F.ex;apply Rm lk J S len λA outer s H vs Q E hr m=>?_;let(t,h,q):=U aI A outer s H vs Q E hr m;exact(t,λpins O σ H1 D I j=>iU (h pins O σ H1 D (I.iL _) j) (λ_ _ q=>q.mv) λe s2 z=>ad7 z,q)
def ad8(E:XK)(C:Addr)(te:TE):TS:=λ_ σ H=>te σ H λv H1=>∃a od,v=.ref a/\H1 a=Α (exc C od .none a)/\(∀d,od=Α d->d≠a)/\E ą od H1
def ko{X:Cx}{E:XK}{e:Expr}{te:TE}{C N:Addr}{pos:Pos}(O:X.A.handled=Β)(c:XC X.K C N)(J:PE (X.yc E) e te):PS (X.yc E) (.Raise (some e) none pos) (ad8 E C te):=by
 intro pins s σ H D I h;let(nm,q,bs,sn,sub,ab,col,dd,k0,k1,k2,k3,k5,cls):=c.obj;rw[arm_exec_Raise];refine au (Qi (aat (C:=C) (nm:=nm) (q:=q) (N:=N) (bs:=bs) (bm:=u5) (hdct:=true) (sn:=sn) (sub:=sub) (ab:=ab) (col:=col) (dd:=dd) (k0:=k0) (k1:=k1) (k2:=k2) (k3:=k3) (k5:=k5) (newId:="Exception.__new__") Ù O
  (au (aL (J pins s σ H _ I h) λu s1 ⟨v,H1,j,Z,a,od,z,m,hd,xr⟩=>au (Qi (aP ?_))))))
 subst z;obtain rfl:u=Value.ref a:=Z;let(o,F,U,q2,vs,W,Y):=ql j.ax m;exact(a,o,vs,Á,(cls _ j.fQ).1,F,U,W,Y,a,C,od,H1,H1,σ,Á,j.mv.JZ,⟨.none,m,λb o e _=>e,.inl Á⟩,hd,xr)
def Inv.Fe{X:Cx}{pins:bJ}{σ:St}{H m:Hp}{s:Sh}{h2:Heap}{t2:Nat}(S:LA)(I:Ã H s)(same:∀b,b∉S->m b=H b)(F:∀b,b∈S->(H b=Β/\s.U b=Β)\/∃φ,H b=Α (.ext φ)) (new:∀b,b∈S->∀u,m b=Α u->Àh m h2 b u)(keep:∀b o,b∉S->s.U b=Α o->h2.I b=Α o) (there:∀b,b∈S->∀o,s.U b=Α o->∃O,h2.I b=Α O):Ã m {s with heap:=h2,toks:=t2}:=
 I.vS (s':={s with heap:=h2,toks:=t2}) (ch:=[]) rfl (E9 S same F (λb o j _ g=>keep b o j g) (λb o j _ g=>⟨o.slots,keep b o j g⟩) there)
  (E8 S I.ax same (λb J=>(F b J).imp (·.1) id) new λb o u _ j g=>keep b o j g) I.bare ļ
def J1{K:FR}{C N:Addr}(c:XC K C N):PySem.W.nsOkIn K N=true:=by
 let(_,_,_,_,_,_,_,_,_,_,_,_,_,_,h):=c.cl;exact h
def ad9{K:FR}{h:Heap}{f:Addr}(XK:K.In h)(j:PySem.W.isFn K Ć=true):∃o,h.I f=Α o/\o.cls=.type "function":=by
 let e:=vK.mp j;delta PySem.W.typeIn at e;cases q:K.Q f with
 |none=>
  symm
 |some o=>
  simp only[q] at e;exact(o,XK _ _ q,aO e)
def aea(C:Addr)(sp:Sp)(m:ay)(E:XK)(t:TA):TE:=λσ H Q=>t σ H λvs H1=>vs.L<=sizeLine/\∀x,H1 x=Β->
 sp (.ref x::(vs++m)) (upd H1 x Ř) (λv j=>v=.aK/\Q Ŧ j) E
def aeb{pins:bJ}{σ:St}{H:Hp}{s:Sh}{Q:VK}{U:LV}{vs:ay}(c:XC X.K C N)(mI:PySem.W.nsIn X.K N "__init__"=Α Âc)(fn:PySem.W.isFn X.K Ć=true)(F:ü CX k f fd ps sp)(hr:dJ (k+1) X.A)(hb:ņ ds)(hd:a9 i7 ds)(hx:uR CX X E) (I:Ã H s) (r:a9 vs U) (u6:vs.L<=sizeLine)(h:∀x,H x=Β->sp (.ref x::(vs++i7)) (upd H x Ř) (λv H2=>v=.aK/\Q Ŧ H2) E):
  wpAny É X.A (call ą U) (ô Q) X.xe s:=by
 let(nm,q,bs,sn,sub,ab,col,dd,k0,k1,k2,k3,k5,cls):=c.obj;let(c1,O,_):=cls s.H I.fQ;let(oF,gF,cF):=ad9 I.fQ fn;let xK:=ad0 I.fQ O mI;let Y:=h Î (I.ax.fresh (Bj _));let g2:((s.o (oP U)).push Âo).I Î=Α Âo:=by
  let z:=eY (s.o (oP U)) (o:=rg C s.Z) rfl;symm
 let m:Ã (upd H Î (exc C none .none Î)) {s with heap:=(s.o (oP U)).push Âo}:=
  I.laid (t':=s.toks) (λb u q=>cf _ (cf _ q)) (Bj _) (tm g2 ⟨rfl,rfl,_,rfl,rfl⟩)
 let Z:a9 (V.ref Î::(vs++i7)) (Value.ref Î::(U++ds)):=.cons rfl (r.append hd);let hl:(Value.ref Î::U++ds).L=ps.L:=by
  let e:=Z.L;rw[F.len _ _ _ _ Y] at e;symm
 let(J,g,d,tk,os):=s;refine zh (aas PySem.F.excBase_Exception c1 O xK gF cF (qR (F.run _ X.stack _ _ ⟨Value.ref (J.O+1)::U,[]⟩ (Value.ref (J.O+1)::(U++ds)) _ _ E (hr.make C U [])
  (m.zI.make C U []) (hb _ (Value.ref (J.O+1)::U) m.fQ hl) Z Y) λr s' j=>?_) (by rw[<-r.L];exact u6))
 cases r with
 |error e=>exact hx pins σ _ _ e s' m j
 |ok fl=>
  cases fl with
  |ret u=>
   let(v,H',I3,rv,ev,q3):=m.after j;subst ev;exact(rv,⟨V.ref (J.O+1),H',I3,Á,q3⟩)
  |next=>exact False.elim j
  |brk=>exact False.elim j
  |cont=>exact False.elim j
def Ff(c:XC X.K C N)(mI:PySem.W.nsIn X.K N "__init__"=Α Âc)(fn:PySem.W.isFn X.K Ć=true)(kp:PySem.W.keepIn X.K ą=true)(F:ü CX k f fd ps sp)(hr:dJ (k+1) X.A)(O:Gl X x)(U:X.mg x=Α ą)(z:ņ ds)(hd:a9 i7 ds)(Y:uR CX X E)(m:PA X (e::es) t) (Z:(x==("__debug__":Str))=false:=by decide) (J:starEach (e::es) X.env=(false,eval e X.env)::starEach es X.env:=by rfl) (j:(backTo pos ø).any (·.1)=false:=by rfl):
  PE X (.Call ϑ (e::es) [] pos) (aea C sp i7 E t):=by
 show Ö;apply xE (vT I O U ?_ Z);refine PySem.W.callWith_K (h₀:=X.base) I.ok.mod.sM kp (aL (m pos pins s σ H _ I h) λus s1 ⟨vs,H1,I1,r,q⟩=>Áx) J j;exact aeb c mI fn F hr z hd Y I1 r q.1 q.2
def aec(K:FR)(t:TA):TE:=λσ H Q=>t σ H λvs H1=>∃a C N od j,vs=[.ref a]/\H1 a=Α (exc C od j a)/\XC K C N/\Q .aK H1
def aed{pl:Sem Bool}(hg:Gl X "Exception")(hm:X.mg "Exception"=Β)(hf:PySem.W.findCls X.K (.type "Exception") (.type "type") "__init__"=Α (.val (.builtin "Exception.__init__")))(ha:PA X (e::es) t)(sV:typeOf (.type "Exception")=pure (.type "type")) (oU:Manifest.isStub "Exception"=false) (O:bootBuiltins "Exception"=Α (.type "Exception"))(he:starEach (e::es) X.env=(false,eval e X.env)::starEach es X.env:=by rfl) (dg:(backTo pos ø).any (·.1)=false:=by rfl)(ht:eval (.Call (.Attribute (.Name "Exception" p) "__init__" i4) (e::es) [] pos) X.env=(do
   let Z <-eval (.Name "Exception" p) X.env
   standAt i4.atName
   let (f,first) <-holding [Z] (getMethod Z "__init__" pl)
   callWith pos f first (backTo pos (starEach (e::es) X.env)) (backToKw pos Àa)):=by rfl):
  PE X (.Call (.Attribute (.Name "Exception" p) "__init__" i4) (e::es) [] pos) (aec X.K t):=by
 show Ö;apply PySem.W.methodCall_KW (pl:=pl) (Àp O ?_) ht;let(m,F):=I.fr;apply PySem.W.method_type F I.ok.mod.sM sV oU hf Ò ?_;apply arA (aL (ha pos pins _ σ H _ (I.tok _) h) λus s1 ⟨vs,H1,J,r1,a,C,N,od,tv,ev,z,c,q⟩=>?_) he dg;subst ev;let(u,rfl,ru):=vals1 r1;cases ru;let(nm,qn,bs,sn,sub,ab,col,dd,k0,k1,k2,k3,k5,cls):=c.obj;let(c1,c2,_):=cls s1.H J.fQ;let(o,Y,q1,q2,wz,j,q4):=ql J.ax z;let zz:=(uE.mp q4).1;let(U,g,d,tk,os):=s1;apply aau PySem.F.excBase_Exception c1 Y q1 j Ô ?_;let gp:=cf (h:=U) (oP []) Y;let gx:((U.push (oP [])).update a (Obj.mapFields (·.setIfInBounds 0 (.ref U.O)))).I a=_:=xA _ gp (DZ (sv j _));apply(.aK,H1,J.Fe (t2:=tk) [a] (λb _=>Á) đ Àf Æi λb hb o g=>?_,Á,q)
 .let:b=a:=by simpa using hb
  subst this;exact .inr (tq z)
 .let:b=a:=by simpa using hb
  subst this;rw[z] at hu;cases hu;apply tm gx ⟨(P3 _ _).R q1,?_,_,sv j _,?_⟩
  .let(cc,cd,dt,sl):=o;cases dt <;> first|exact q2|cases j
  .symm
 .let:b≠a:=by simpa using nb
  rw[uD _ _ (dj this)];exact cf _ g
 .symm
def aef(K:FR)(ta m:TE)(g:Str):TS:=λD σ H=>m σ H λy H1=>ta σ H1 λv j=>∃a C N te,v=.ref a/\j a=Α (exc C none te a)/\XC K C N/\E7 K N g/\
 ∀d,j d=Β->d≠a->D.nx σ (upd (upd j a (exc C (some d) te a)) d (u4 d (iu g y [])))
def aeg{g:Str}{O:Expr}{lS:Pos}(ha:PE X o ta)(hv:PE X O tv)(hs:swapsWith O (some (.Attribute o g lS)) pos.line X.env=pure false):PS X (.Assign [.Attribute o g lS] O pos) (aef X.K ta tv g):=by
 intro pins s σ H D I h;apply Zt (aL (hv pins s σ H _ I h) λu s1 ⟨y,H1,I1,ry,q⟩=>aL (ha pins s1 σ H1 _ I1 q) λov U ⟨x,Y,m,rx,a,C,N,te,ex,ea,c,n,q2⟩=>?_) hs;subst ex;obtain rfl:ov=Value.ref a:=rx;let(nm,qn,bs,sn,sub,ab,col,dd,k0,k1,k2,k3,k5,cls):=c.obj;let(c1,c2,c3,c4,c5):=cls U.H m.fQ;let(o,ge,p1,p2,wz,p3,p4):=ql m.ax ea;let uM:U.H.nsMap N g=Β:=PySem.W.nsMap_none_of_in m.fQ (J1 c) n.own;let(j,gg,dr,tk,os):=U;apply aaC PySem.F.store_Exception c1 c2 c5 uM n.base ge p1 (λc z=>(by rw[p3] at z;cases z)) p2 λh' j0 w1 w2 w3=>?_;let dn:Y j.O=Β:=m.ax.fresh (bw _);let Z:j.O≠a:=qS (cq ge);let e1:(upd (upd Y a (exc C (some j.O) te a)) j.O (u4 j.O (iu g y []))) a=Α (exc C (some j.O) te a):=by rw[ao (dj Z),aq]
 apply(σ,_,m.Fe (h2:=h') (t2:=j0) [a,j.O] (λb nb=>?_) đ (λb hb u' J=>?_) Æi (λb hb o g=>?_),q2 j.O dn Z)
 .let:b≠a/\b≠j.O:=by simpa using nb
  rw[ao this.2,ao this.1]
 .let:b=a\/b=j.O:=by simpa using hb
  rcases this with rfl|rfl
  .exact .inr (tq ea)
  .exact .inl ⟨dn,P6 (bw _)⟩
 .let:b=a\/b=j.O:=by simpa using hb
  rcases this with rfl|rfl
  .rw[e1] at J;cases J;exact tm w2 ⟨p1,Á,wz,p3,p4⟩
  .rw[aq] at J;cases J;apply Sx w1 (λf=>?_) (λz hz=>?_) (by show 1<=1000;decide)
   .rw[Jq];by_cases e:f=g
    .rw[af e,af e];exact ry
    .rw[ag e,ag e];exact True.intro
   .by_cases e:z=g
    .rw[e];exact(BM g y []).1
    .rw[ag e] at hz;exact absurd Á hz
 .let:b≠a/\b≠j.O:=by simpa using nb
  exact w3 b o this.1 g
 .let:b=a\/b=j.O:=by simpa using hb
  rcases this with rfl|rfl
  .exact(_,w2)
  .exact absurd (cq g) (qT _)
def aeh(K:FR)(ta m:TE)(g:Str):TS:=λD σ H=>m σ H λy H1=>ta σ H1 λv j=>∃a C N d te fs,v=.ref a/\j a=Α (exc C (some d) te a)/\d≠a/\j d=Α (u4 d fs)/\fs.L<1000/\XC K C N/\E7 K N g/\
 D.nx σ (upd j d (u4 d (iu g y fs)))
def aei{g:Str}{J:Expr}{U:Pos}(ha:PE X o ta)(hv:PE X J tv)(hs:swapsWith J (some (.Attribute o g U)) pos.line X.env=pure false):PS X (.Assign [.Attribute o g U] J pos) (aeh X.K ta tv g):=by
 intro pins s σ H D I h;apply Zt (aL (hv pins s σ H _ I h) λu s1 ⟨y,H1,I1,ry,q⟩=>aL (ha pins s1 σ H1 _ I1 q) λov Y ⟨x,H2,j,rx,a,C,N,d,te,fs,ex,ea,ne,m,fl,c,n,q2⟩=>?_) hs;subst ex;obtain rfl:ov=Value.ref a:=rx;let(nm,qn,bs,sn,sub,ab,col,dd,k0,k1,k2,k3,k5,cls):=c.obj;let(c1,c2,c3,c4,c5):=cls Y.H j.fQ;let(o,ge,p1,p2,wz,p3,p4):=ql j.ax ea;let(mA,nA,rA,Z,lA):=adZ j.ax m;let uM:=PySem.W.nsMap_none_of_in j.fQ (J1 c) n.own;let aC:a≠C:=λz=>by
  grind
 let(hh,gg,dr,tk,os):=Y;let lz:(fs.M (·.1)).L<=sizeLine:=by rw[az,uF];lia
 apply aaD PySem.F.store_Exception c1 c2 c5 uM n.base ge p1 (λc z=>Å) p2 ne nA Z lz aC λh' j0 w1 w3=>?_;apply(σ,_,j.Fe (h2:=h') (t2:=j0) [d] (λb nb=>?_) đ (λb hb u' O=>?_) Æi (λb hb o g=>?_),q2)
 .let:b≠d:=by simpa using nb
  rw[ao this]
 .let:b=d:=by simpa using hb
  subst this;exact .inr ⟨_,m⟩
 .let:b=d:=by simpa using hb
  subst this;rw[aq] at O;cases O;apply Sx w1 (λf=>?_) (λz hz=>?_) (gS (Jr g y fs) fl)
  .rw[Jq];by_cases e:f=g
   .rw[af e,af e];exact ry
   .symm
  .by_cases e:z=g
   .rw[e];exact(BM g y fs).1
   .rw[ag e] at hz;exact(BM g y fs).2 z (Z z hz)
 .symm
 .let:b=d:=by simpa using hb
  subst this;let(o',_,_,e',_):=w1;symm
abbrev Cx.rL(X:Cx)(a:Addr):Cx:={X with A:=X.A.mark (some ā),calm:=false,xe:=λ_ _=>False}
def Cx.Ok.rL{X:Cx}(ok:X.Ok)(a:Addr):(X.rL a).Ok:=
 ⟨ok.mod,ok.kind,ok.glob,ok.blt,ok.above,ok.inj,ok.has,ok.xN,λh=>(by cases h),ok.frames,ok.Bz,ok.BA,ok.bs,ok.nM,ok.zu,ok.zw,ok.lu,ok.p7⟩
def Inv.rL{X:Cx}{pins:bJ}{σ:St}{H:Hp}{s:Sh}(I:Ã H s)(a:Addr):Inv (X.rL a) pins σ H s:=⟨I.ok.rL a,I.os,I.bare,I.base,I.loc,I.cell,I.free,I.j4,I.pin,I.ax,I.len⟩
def Inv.zY(ok:X.Ok)(I:Inv (X.rL a) pins σ H s):Ã H s:=⟨ok,I.os,I.bare,I.base,I.loc,I.cell,I.free,I.j4,I.pin,I.ax,I.len⟩
def aej{M:Model}{A:Around}{E:VP}{nm q Y q':Str}{C N C1 N1:Addr}{bs Z:LV}{hdct j:Bool}{sn SE:LS}{sub SG:LV}{ab SH:Bool}{col SJ:Option Bool}{dd sY:OA}{k0 k1 k2 k3 k5 SK SL SM SN SO:Option Value}{newId m:String}{h:Heap} {g:Array GenState} {d:Drawn} {t:Nat} {os:OsState} {e:Addr} {O:Obj} {Q:Bool->Shared->Prop}(F:h.I C=Α (excClassObj nm q C N bs u5 hdct sn sub ab col dd k0 k1 k2 k3 k5 newId)) (z:h.I C1=Α (excClassObj Y q' C1 N1 Z u5 j SE SG SH SJ sY SK SL SM SN SO m))(he:h.I e=Α O) (J:O.cls=.ref C) (ne:C≠C1)(hq:Q false ⟨h,g,d,t,os⟩):Ś (excMatches Èz (.ref C1)) Q E ⟨h,g,d,t,os⟩:=by
 let W:(Value.ref C1::u5).Y (.type "BaseException")=true:=by rw[Be,show u5.Y (.type "BaseException")=true by decide,Zi]
 let U:(Value.ref C::u5).Y (.ref C1)=false:=by
  grind
 let f:=tc_notTuple;ext excMatches
 repeat (first|(with_reducible apply uA he ?_;rw[J])|with_reducible apply uA z ?_|with_reducible apply uA F ?_|(with_reducible apply PZ z ?_;rw[W])|(with_reducible apply PZ F ?_;rw[U])|wp_step)
 exact hq
abbrev TH:=Hp->Addr->Addr->OA->TS
def PH(X:Cx)(F:List ExceptHandler)(th:TH):Prop:=
 ∀(pins:bJ)(s:Sh)(σ:St)(H H0:Hp)(a C N:Addr)(od:OA)(D:Ends),Ã H s->XC X.K C N->rH .none H0 a C od H->th H0 a C od D σ H->
  wpAny É X.A (handleBy ā X.env F) År X.xe s
def aem:TH:=λ_ _ _ _ _ _ _=>False
def aen:PH X [] aem:=λ_ _ _ _ _ _ _ _ _ _ _ _ _ h=>h.elim
def aeo(C1:Addr)(ts:TS)(th:TH):TH:=λH0 a C od D σ H=>(C=C1->∀H',rH .none H0 a C od H'->ts D σ H')/\(C≠C1->th H0 a C od D σ H)
theorem SP.zY(ok:X.Ok)(h:SP (X.rL a) pins D f s'):SP X pins D f s':=by
 cases f with
 |next=>let(σ',H',I,q):=h;exact(σ',H',I.zY ok,q)
 |brk=>let(σ',H',I,q):=h;exact(σ',H',I.zY ok,q)
 |cont=>let(σ',H',I,q):=h;exact(σ',H',I.zY ok,q)
 |ret u=>let(v,σ',H',I,r,q):=h;exact(v,σ',H',I.zY ok,r,q)
section
variable{X:Cx}{C1 N1:Addr}{x:Str}{p pos:Pos}{b0:Stmt}{SR:List Stmt}{bT:List ExceptHandler}{ts:TS}{th:TH}
def Fh(U:XC X.K C1 N1)(hg:Gl X x)(hm:X.mg x=Α (.ref C1))(hs:∀a,lx (X.rL a) (b0::SR) ts)(hr:PH X bT th)(i8:(x==("__debug__":Str))=false:=by decide):
  PH X (.ExceptHandler (some ϑ) none (b0::SR) pos::bT) (aeo C1 ts th):=by
 intro pins s σ H H0 a C N od D I c f h;apply wpAny_handleBy_cons (codeAny_handlers_test (vT (X:=X.rL a) (I.rL a) hg hm ?_ i8)) (by intro q;cases q);let(nm,qn,bs,sn,sub,ab,col,dd,k0,k1,k2,k3,k5,cls):=c.obj;let(SC,qn',SD,SE,SG,SH,SJ,sY,SK,SL,SM,SN,SO,j):=U.obj;let(F,_):=cls s.H I.fQ;let(W,_):=j s.H I.fQ;let(T,Z,kp,ne,yb,hT):=id f;let(o,J,O,q2,wz,q3,q4):=ql I.ax Z;by_cases e:C=C1
 .subst e;let(hh,g,d,tk,os):=s;apply wpAny_excMatches_sub_self F J O Ù ?_;apply codeAny_handlers_suite ?_;apply Cd (X:=X) none I f λs' H' m Y=>?_;refine iU (hs a pins s' σ H' D (m.rL a) (h.1 Á H' Y)) (λfl s2 q=>q.zY m.ok) λ_ _ z=>False.elim z
 .let(hh,g,d,tk,os):=s;apply aej F W J O e ?_;exact hr pins _ σ H H0 a C N od D I c f (h.2 e)
end
def SS(X:Cx)(j:List Stmt)(tb:XK->TS):Prop:=
 ∀(pins:bJ)(s:Sh)(σ:St)(H:Hp)(D:Ends)(E:XK),Ã H s->tb E D σ H->wpAny É X.A (execs j X.env) År
  (λe s'=>∃a C od H0 H',e=.ref a/\Ã H' s'/\rH .none H0 a C od H'/\(∀d,od=Α d->d≠a)/\E ą od H0) s
def aeq(K:FR)(th:TH)(D:Ends)(σ:St):XK:=λj od H0=>∃C N,j=.ref C/\XC K C N/\∀a H',(∀d,od=Α d->d≠a)->rH .none H0 a C od H'->th H0 a C od D σ H'
def aer(K:FR)(tb:XK->TS)(th:TH):TS:=λD σ H=>tb (aeq K th D σ) D σ H
def aes(O:X.Fd)(hb:SS X gZ tb)(hh:PH X (Z::hs) th):PS X (.Try gZ (Z::hs) [] [] pos) (aer X.K tb th):=by
 intro pins s σ H D I h;apply wpAny_Try_except (iU (hb pins s σ H D _ I h) (λf s1 q=>?_) λe s1 q=>?_)
 .cases f with
  |next=>exact D1 q
  |brk=>exact q
  |cont=>exact q
  |ret v=>exact q
 .let(a,C,od,H0,H1,rfl,m,W,hd,C',N,U,c,hk):=q;cases U;apply Fb O.1 O.2 O.2 m.ok.frames m W.at_ λs2 H2 z Y=>?_;apply Cd none z Y λs3 j J F=>?_;exact hh pins s3 σ j H0 a C N od D J c F (hk a j hd F)
def aet(hN:X.N.Nodup)(hi:X.N[i]? =Α x)(hx:Loc X.env.scope x)(F:ü (gD X.prog X.w) k f fd ps sp)(hr:dJ k X.A)(hg:Gl X g)(hm:X.mg g=Α Ć)(hk:PySem.W.keepIn X.K Ć=true)(hb:ņ [])(ha:PA X.vW (e::es) t)(hs:swapsWith (.Call Èh (e::es) [] pos) (some (.Name x px)) wm.line X.env=pure false:=by rfl) (hf:X.fn x=true\/X.env.scope.names.Q x=Α .local:=by first|exact .inl Á|exact .inr Á|assumption)(i8:(g==("__debug__":Str))=false:=by decide) (he:starEach (e::es) X.env=(false,eval e X.env)::starEach es X.env:=by rfl) (Y:(backTo pos ø).any (·.1)=false:=by rfl):
  SS X [.Assign [.Name x px] (.Call Èh (e::es) [] pos) wm] (λE=>zB (ic sp [] E t) (qf i)):=by
 intro pins s σ H D E I h;let fG:wpAny É X.A (eval (.Call Èh (e::es) [] pos) X.env) (ô λv H1=>D.nx ł H1) (λe s'=>∃a C od H0 H',e=.ref a/\Ã H' s'/\rH .none H0 a C od H'/\(∀d,od=Α d->d≠a)/\E ą od H0) s:=by
  apply xE (vT I hg hm ?_ i8);refine PySem.W.callWith_K (h₀:=X.base) I.ok.mod.sM hk (iU (ha pos pins s σ H _ (I.iL _) h) (λU m ⟨vs,H1,I1,r,q⟩=>Áx) λ_ _ z=>False.elim z) he Y;let I1:=I1.mv;let q:sp (vs++[]) H1 (λv H1=>D.nx ł H1) E:=q;rw[jG] at q;let hl:U.L=ps.L:=by rw[<-r.L];exact F.len _ _ _ _ q
  let J:=hb m U I1.fQ Å;rw[jG] at J;apply zh (qR (F.run X.A X.stack m H1 ⟨U,[]⟩ U vs _ E hr I1.zI J r q) λr s' j=>?_);cases r with
  |error e=>
   let(a,C,od,H0,H',Z,e2,e3,e4,e5,e6,e7,e8):=j;exact(a,C,od,H0,H',Z,I1.vS (ch:=[]) e2 e4 e5 e3 ļ,e6,e7,e8)
  |ok fl=>
   cases fl with
   |ret u=>exact I1.after j
   |next=>exact False.elim j
   |brk=>exact False.elim j
   |cont=>exact False.elim j
 apply P7 (wpAny_Assign_Name (iU fG (λv m ⟨y,H1,I1,r1,q1⟩=>?_) λ_ _ z=>z) hs);exact Ey I1 hN hi hx r1 (λs2 O=>D1 ⟨_,H1,O,q1⟩) hf
def Cf(K:FR)(a:Addr):It:=
 ⟨λi H=>∃(xs:ay)(x:V),ŭ a xs/\xs[i]? =Α x,λi H v H'=>∃T x,v=.ref T/\H T=Β/\H'=upd H T (.tup [.int (i:Nat),x])/\∀xs,ŭ a xs->xs[i]? =Α x,λi H=>∃xs:ay,ŭ a xs/\xs.L=i⟩
def J2(x:IsTup h a aj):h.IsTuple a aj:=x
def aeu{P:Pg}{w:Wd}{K:FR}{ny:List Expr}{kk:Nat}{mQ:Pos}(a e it:Addr):
  Turn P w K į (Cf K a) [e,it] e (λi h=>(∃F,IsEnum h e it ((i:Nat):Int) F)/\h.IsTupleIter it a i/\e≠it/\a≠it/\a≠e) where
 mem:=by simp
 obj:=λi h=>E5
 keep:=λi h h' st k=>let ⟨⟨F,j⟩,hi,aU⟩:=st;⟨⟨F,k e Ä _ j⟩,hi.at λo q=>k it Ä o q,aU⟩
 item:=by
  show Ó;subst hP hw hK;let ob:=E5 st;let((F,j),Y,aU,J,W):=st;let(xs,x,U,hx):=hg;let(O,rv,p,hz):=I.tuple U;let(u,hu,ru):=rv.get hx;let lH:=cq j;let Z:X.A.in1.handled=Β:=I.ok.hd hc;apply wpAny_pyNext_enum_itemD (QN Z it a J O.toArray) j ⟨Y,J2 p⟩ (by simpa using (bO.mp hu).1) aU (by simp;exact(aU,dj W)) λy h' tk hy ho mx hT hsz hk=>?_;let ey:y=u:=by
   let q:=hu.symm.R (À hy);exact(aO q).symm
  subst ey;apply(_,Á,arN (s:={s with heap:=h',toks:=tk+1}) ho λqk Ca sb=>?_);let uZ:qk.I s.Z=Α {cls:=.type "tuple",data:=.seq #[.int i tk,y]}:=(sb.2 _ (qS lH)).R hT;let ⟨I1,n1⟩:=E4 (x:=.int (i:Nat)) (t':=tk+1) ob hf (λb ob m q=>(sb.2 b (λz=>m (by simp[z]))).R (hk b ob (λz=>m (by simp[z])) (λz=>m (by simp[z])) q)) I uZ ⟨_,rfl⟩ ru;exact(.ref s.Z,_,I1,Á,⟨_,x,Á,I.ax.fresh (bw _),Á,λys hy=>by rw[I.QY hy U];exact hx⟩,⟨⟨y,by rw[show((i+1:Nat):Int)=(i:Int)+1 by rfl];exact Ca⟩,mx.1.at λo q=>(sb.2 it Åp).R q,aU,J,W⟩,n1)
 done:=by
  show Ó;subst hP hw hK;let((F,j),Y,aU,J,W):=st;let(xs,U,hx):=hg;let(O,rv,p,hz):=I.tuple U;show ë;let hl:=rv.L;let Z:X.A.in1.handled=Β:=I.ok.hd hc;let en:i=O.toArray.u:=by
   rw[sA];symm
  subst en;exact wpAny_pyNext_enum_endD (QN Z it a J O.toArray) j ⟨Y,J2 p⟩ λh' eb=>⟨Á,I.turned (t':=s.toks) (λb o m q=>eb b o m q) f0 f1 f3 f4 f5⟩
 self:=λA i s Q E st h=>let ⟨⟨_,j⟩,_⟩:=st;Ql j h
def aev(K:FR)(ta:TA):TI:=λσ H R=>ta σ H λvs H1=>∃a xs,vs=[.ref a]/\bz K H1 a xs/\R (Cf K a) H1
def SU{X:Cx}{e:Expr}{ta:TA}{p pos mQ:Pos}{ny:List Expr}{kk:Nat}(hg:Gl X "enumerate")(hm:X.mg "enumerate"=Β)(U:PA X [e] ta)(hs:starEach [e] X.env=[(false,eval e X.env)]:=by rfl):
  PI X į (.Call (.Name "enumerate" p) [e] [] pos) (aev X.K ta):=by
 intro pins s σ H R I h;apply Call_ (Àp boot_enumerate (D4 (aL (U pos pins s σ H _ I h) λus j ⟨vs,H1,I1,r1,Z⟩=>?_) hs Á));let(a,xs,ex,Y,q):=Z;subst ex;cases r1 with
 |cons r rr=>
  cases rr;cases r;let(aj,rv,F,hz):=I1.tuple Y;let m:=F.lt;apply aaH (J2 F) λh' z O hsz hk=>Ql z ?_;let J:Ã H1 {j with heap:=h'}:=I1.kept (t':=j.toks) hk;apply(j.Z+1,[j.Z+1,j.Z],_,_,H1,Á,J,aeu a (j.Z+1) j.Z,⟨⟨.none,z⟩,O,Nat.succ_ne_self _,dX m,dX (xF m)⟩,λb W=>?_,q);let e':b=j.Z+1\/b=j.Z:=À W
  let i5:j.Z<=b:=by
   grind
  exact I1.vX i5 Çh
def aew{K:FR}{a:Addr}{xs:ay}{g:TG}{tb:TS}{D:Ends}{σ:St}{H:Hp}(Pv:Nat->St->Hp->Prop)(h0:Pv 0 σ H)(hl:∀i σ H,i<=xs.L->Pv i σ H->ã a xs)(hs:∀i x T σ H,xs[i]? =Α x->Pv i σ H->H T=Β->g Ų σ (ϣ (.tup [.int (i:Nat),x])) λσ2 j=>tb {D with nx:=Pv (i+1),ct:=Pv (i+1),bk:=D.nx} σ2 j) (hd:∀σ H,Pv xs.L σ H->D.nx σ H):
  ∃W:Nat->Nat->St->Hp->Prop,(∃m,W 0 m σ H)/\∀i m σ H,W i m σ H->
   ((wx K a).stop i H/\D.nx σ H)\/((wx K a).go i H/\∃N:St->Hp->Prop,(∀σ' H',N σ' H'->∃J,J<m/\W (i+1) J σ' H')/\∀x H',(wx K a).nN i H x H'->g x σ H' λσ2 j=>tb {D with nx:=N,ct:=N,bk:=D.nx} σ2 j):=by
 refine ð;rintro i m σ H ⟨rfl,hi,p⟩;let q:=hl i σ H hi p;by_cases F:i<xs.L
 .apply .inr ⟨⟨xs,xs[i],q,by simp[F]⟩,Pv (i+1),λσ' H' p'=>⟨xs.L-(i+1),by grind,rfl,F,p'⟩,λx H' y=>?_⟩;let(T,z,O,U,Y,Z):=y;subst O Y;exact hs i z T σ _ (Z xs q) p U
 .let e:i=xs.L:=by lia
  subst e;exact .inl ⟨⟨xs,q,bw _⟩,hd σ H p⟩
def SV{K:FR}{a:Addr}{xs:ay}{g:TG}{tb:TS}{D:Ends}{σ:St}{H:Hp}(Pv:Nat->St->Hp->Prop)(h0:Pv 0 σ H)(hl:∀i σ H,i<=xs.L->Pv i σ H->ŭ a xs)(hs:∀i x T σ H,xs[i]? =Α x->Pv i σ H->H T=Β->g Ų σ (ϣ (.tup [.int (i:Nat),x])) λσ2 j=>tb {D with nx:=Pv (i+1),ct:=Pv (i+1),bk:=D.nx} σ2 j) (hd:∀σ H,Pv xs.L σ H->D.nx σ H):
  ∃W:Nat->Nat->St->Hp->Prop,(∃m,W 0 m σ H)/\∀i m σ H,W i m σ H->
   ((Cf K a).stop i H/\D.nx σ H)\/((Cf K a).go i H/\∃N:St->Hp->Prop,(∀σ' H',N σ' H'->∃J,J<m/\W (i+1) J σ' H')/\∀x H',(Cf K a).nN i H x H'->g x σ H' λσ2 j=>tb {D with nx:=N,ct:=N,bk:=D.nx} σ2 j):=by
 refine ð;rintro i m σ H ⟨rfl,hi,p⟩;let q:=hl i σ H hi p;by_cases F:i<xs.L
 .apply .inr ⟨⟨xs,xs[i],q,by simp[F]⟩,Pv (i+1),λσ' H' p'=>⟨xs.L-(i+1),by omega,rfl,F,p'⟩,λx H' y=>?_⟩;let(T,z,O,U,Y,Z):=y;subst O Y;exact hs i z T σ _ (Z xs q) p U
 .let e:i=xs.L:=by omega
  subst e;exact .inl ⟨⟨xs,q,Á⟩,hd σ H p⟩
def aex{x:Str}{g:TG}{tt:TT}{te:TE}{vs:LN}{σ:St}{H1:Hp}{D:Addr}{Qd:Hp->Prop}(j:Nat->Hp->Prop)(U:j 0 ď)(hs:∀i c H,x.cps[i]? =Α c->j i H->g (.str ⟨#[c]⟩) ľ H λσ2 F=>wipe σ2 vs=wipe σ vs/\tt σ2 F λb z=>
   if b=true then te σ2 z (j8 D (j (i+1))) else j (i+1) z) (hd:∀H,j x.cps.u H->Qd H):
  ∃W:Nat->Nat->Hp->Prop,(∃m,W 0 m ď)/\∀i m H,W i m H->
   ((B5 x).stop i H/\Qd H)\/((B5 x).go i H/\∃Nx:Hp->Prop,(∀H',Nx H'->∃O,O<m/\W (i+1) O H')/\∀y H',(B5 x).nN i H y H'->g y ľ H' λσ2 F=>wipe σ2 vs=wipe σ vs/\tt σ2 F λb z=>
    if b=true then te σ2 z Æb else Nx z):=by
 apply(λi m H=>m=x.cps.u-i/\i<=x.cps.u/\j i H,⟨x.cps.u,by simp,du _,U⟩,?_);rintro i m H ⟨rfl,hi,p⟩;by_cases J:i<x.cps.u
 .apply .inr ⟨J,j (i+1),λH' Y=>⟨x.cps.u-(i+1),by grind,rfl,J,Y⟩,λy H' q=>?_⟩;let(e,c,Z,e2):=q;symm
 .let e:i=x.cps.u:=by lia
  subst e;exact .inl ⟨bw _,hd H p⟩
section
variable{X:Cx}
def SW{E:XK}{i:Nat}{y:Str}{py:Pos}{k8 tg iter:Expr}{jE:List Expr}{scope:Scope}{own:List (Str×Nat)}{pos wm:Pos}{wi:TI}{g:TG}{tt:TT}{te:TE}(hc:X.calm=true)(ow:X.Fd)(hN:X.N.Nodup)(hy:X.N[i]? =Α y)(sX:X.env.scope.names.Q y=Α .local)(BY:swapsWith à (some (.Name y py)) wm.line X.env=pure true) (hi:PI (X.yc E) tg iter wi) (ok:İ own)(hg:∀(s:Sh)(H:Hp)(C:Addr)(cl:eZ)(fp:LA),PG Ð tg g) (ht:∀(s:Sh)(H:Hp)(C:Addr)(cl:eZ)(fp:LA),x5 Ð jE tt)(he:∀(s:Sh)(H:Hp)(C:Addr)(cl:eZ)(fp:LA),PE ((X.gy s H scope Áa fp).yc E) k8 te) (hs:∀x,foldedSetIterable iter X.env x=pure x:=by intro _;rfl):
  PS (X.yc E) (.Assign [.Name y py] à wm) (zB (BX wi g tt te (own.M (·.2))) (qf i)):=by
 apply R9 (Ex:=zW X E) (Eb:=λB=>zW B E) hc hN hy sX BY hi ok hg ht he hs λ{use Qf}pins σ F H3 cl fp D e o4 I3 U hz=>?_;generalize lF:compEnvC scope cl F.Z X.env=ce at hz;let cL:ce.locals=F.Z:=by subst lF;rfl
 let(xa,xC,od,H0,Hx,σx,rfl,Ix,fx,jf,hE):=hz;apply Fb (X:=X.gy F H3 scope ce fp) (en:=ce) ow.1 ow.2 (by rw[<-lF];exact ow.2) I3.ok.frames Ix fx λj O W SX=>?_;let(m,Z,_):=id W.loc;let Z:=Z;rw[cL] at Z;let nC:O F.Z=Β:=by
  let z:=W.free;rw[cL] at z;exact z
 let fG:∃m,j.H.Ns F.Z m/\∀h',Heap.SameBut F.Z j.H h'->∀Y:Env,Y.locals=F.Z->wpAny É X.A (passOn "comprehension.variables-let-go" (.ref xa) Y:Sem Value) Äd (zW X E) {j with heap:=h'}:=by
  apply(m,Z,λh' sb Y _=>?_);let I12:Ã O j:=I3.vS (ch:=fp) W.os W.base W.ax W.bare λb J=>⟨(U b J).1.2.2.2.1,(U b J).1.2.1,(U b J).1.2.2.2.2.1,(U b J).1.2.2.2.2.2⟩;let(g0,g1,g2,g3,g4,g5):=I3.vX (H':=O) (bw _) nC;let SY:Ã O {j with heap:=h',toks:=j.toks}:=I12.turned (t':=j.toks) (λb o J e=>(sb.2 b J).R e) g0 g1 g3 g4 g5;let(T',Ce,_):=id SX;let(o',ge',q1',q2',wz,q3',q4'):=ql SY.ax Ce;ext PySem.passOn;apply au (vI ge' q3' q4' ?_);rw[ag (show ¬(Value.ref T'==Value.none)=true from d8)];apply au (Cd Y.frame SY SX λo6 H14 I14 f14=>P5 ?_);exact(xa,xC,od,H0,H14,σ,Á,I14.JZ,f14.at_,jf,hE)
 cases use <;> exact fG
end
end L2
namespace L2
open PySem PySem.Spec PyProof.Rows
theorem ye:∀xs ys:LI,PyData.eqvAll Ϧ (ys.M PyData.int)=decide (xs=ys)
 |[],[]=>by simp[PyData.eqvAll]
 |[],y::ys=>by simp[PyData.eqvAll]
 |x::xs,[]=>by simp[PyData.eqvAll]
 |x::xs,y::ys=>by
  simp only[a8,PyData.eqvAll,PyData.eqv,ye xs ys];by_cases h:x=y
  .subst h;simp
  .simp[h]
theorem SZ:∀xs:LI,PyData.canLayAll0 Ϧ=true:=by
 intro xs;induction xs with
 |nil=>exact Á
 |cons x xs j=>
  simp only[a8,PyData.canLayAll0,PyData.canLay0,j,Qm]
theorem S2:∀xs:LI,PyData.depthAll Ϧ<=1:=by
 intro xs;induction xs with
 |nil=>
  simp[PyData.depthAll]
 |cons x xs j=>
  let:=j;simp only[a8,PyData.depthAll,PyData.depth];assumption
def shaped_ints(xs:LI):SeqAt.shaped (.list Ϧ)=true:=by
 ext SeqAt.shaped;rw[jq,nD];apply(SZ xs,?_);let:=S2 xs;simp only[PyData.depth];lia
theorem rM{K:FR}{H:Hp}:∀xs:LI,jc K H Èm Ϧ:=by
 intro xs;induction xs with
 |nil=>exact .nil
 |cons x xs j=>
  exact .cons (.int x) j
inductive aeF(K:FR)(x:V)(y:V)(H:Hp)(Q:VK):Prop
 |mk (a b:Addr) (xs ys:LI) (_:x=.ref a) (_:y=.ref b) (_:ã a Èm) (_:ã b (ys.M V.int)) (_:Q (.bl (decide (xs=ys))) H)
inductive aeG(K:FR)(x:V)(y:V)(H:Hp)(Q:VK):Prop
 |mk (a b:Addr) (xs ys:LI) (_:x=.ref a) (_:y=.ref b) (_:ã a Èm) (_:ã b (ys.M V.int)) (_:Q (.bl (!decide (xs=ys))) H)
def aeH(F:X.A.units+64<cLine):eU X Áo (aeF X.K):=by
 intro pins s σ H x y v u Q I J O ⟨a,b,xs,ys,j,m,z,h2,q⟩;subst j m;apply RT F pins s σ H _ _ v u Q I J O ⟨_,_,.lst z (rM xs),.lst h2 (rM ys),shaped_ints _,shaped_ints _,?_⟩;show Q (.bl (PyData.eqvAll _ _)) H;rw[ye];exact q
def S3(F:X.A.units+64<cLine):eU X Áv (aeG X.K):=by
 intro pins s σ H x y v u Q I J O ⟨a,b,xs,ys,j,m,z,h2,q⟩;subst j m;apply JF F pins s σ H _ _ v u Q I J O ⟨_,_,.lst z (rM xs),.lst h2 (rM ys),shaped_ints _,shaped_ints _,?_⟩;show Q (.bl (!PyData.eqvAll _ _)) H;rw[ye];exact q
inductive S4(K:FR)(x:V)(y:V)(H:Hp)(Q:VK):Prop
 |mk (a b xs:_) (_:x=.ref a) (_:y=.ref b) (_:ã a xs) (_:ã b []) (_:Q (.bl xs.isEmpty) H)
inductive aeI(K:FR)(x:V)(y:V)(H:Hp)(Q:VK):Prop
 |mk (a b xs:_) (_:x=.ref a) (_:y=.ref b) (_:ã a xs) (_:ã b []) (_:Q (.bl (!xs.isEmpty)) H)
def S5(r:a9 xs aj)(j:a9 [] its')(h:xs≠[]):(aj.toArray.u !=its'.toArray.u)=true:=by
 cases j;let:=r.L;grind
def yf(hu:X.A.units+64<cLine):eU X Áo (S4 X.K):=by
 intro pins s σ H x y v u Q I z F ⟨a,b,xs,Y,Z,j,h2,q⟩;subst Y Z;by_cases m:xs=[]
 .subst m;apply RT hu pins s σ H _ _ v u Q I z F ⟨_,_,.lst j .nil,.lst h2 .nil,by rfl,by rfl,?_⟩;exact q
 .cases z;cases F;let(aj,r1,(o1,n1,g1,J,_,U),_):=I.list j;let(its',r2,(o2,n2,g2,O,_,W),_):=I.list h2;apply SeqAt.eq_list_lengthsAt ⟨o1,g1,J,n1,U⟩ ⟨o2,g2,O,n2,W⟩ (S5 r1 r2 m) Ô ⟨.bl false,H,I,Á,?_⟩;grind
def Ck(hu:X.A.units+64<cLine):eU X Áv (aeI X.K):=by
 intro pins s σ H x y v u Q I Y Z ⟨a,b,xs,e1,e2,U,h2,q⟩;subst e1 e2;by_cases W:xs=[]
 .subst W;apply JF hu pins s σ H _ _ v u Q I Y Z ⟨_,_,.lst U .nil,.lst h2 .nil,by rfl,by rfl,?_⟩;exact q
 .cases Y;cases Z;let(aj,r1,(o1,n1,O,j,_,z),_):=I.list U;let(its',r2,(o2,n2,g2,m,_,J),_):=I.list h2;let(cls,dd,data,sl):=o1;let(Rr,mJ,data2,nR):=o2;simp only at j z m J;subst j z m J;refine Qb (op:=.NotEq) ⟨_,O,Á⟩ ⟨_,g2,Á⟩ F.slot_list_ne F.entry_list_ne (F.args_list_ne_2 _ _) (SeqAt.list_ne_lengthsAt a b aj.toArray its'.toArray n1 n2 dd mJ sl nR (S5 r1 r2 W))
   ⟨O,g2,(λx=>nomatch x),⟨.bl true,H,I,rfl,?_⟩⟩ á
  grind
end L2
namespace L2
open PySem PySem.Spec PyProof.Rows PySem.XL
theorem aeJ(x:fO P w H h a o):∃O,h.I a=Α O:=by
 cases o with
 |lst xs=>let(_,_,_,_,e):=x;exact(_,e)
 |tup xs=>let(_,_,_,O,e,_):=x;exact(O,e)
 |dK kvs=>let(_,_,_,_,o,_,_,e,_):=x;exact(o,e)
 |dT kvs=>let(_,_,_,_,o,_,_,e,_):=x;exact(o,e)
 |set S n=>let(o,_,_,_,e,_):=x;exact(o,e)
 |ins C dx fs=>let(_,_,_,e,_):=x;exact(_,e)
 |own y=>let(O,e):=x;exact(O,e)
 |xd fs=>let(_,(O,_,_,e,_),_):=x;exact(O,e)
 |sL lo hi=>let(_,_,_,e):=x;exact(_,e)
 |cI O u=>let(e,_):=x;exact(O,e)
 |gU ps=>exact(_,x)
 |met f y=>exact(_,x)
 |ext φ=>let(_,(O,e),_):=x;exact(O,e)
def aeK(C:Addr):TE:=λ_ H Q=>∀x,H x=Β->Q Ŧ (upd H x Ř)
def nX(c:XC X.K C N)(mI:PySem.W.nsIn X.K N "__init__"=Α none)(kp:PySem.W.keepIn X.K ą=true)(Z:Gl X x)(hm:X.mg x=Α ą)(i8:(x==("__debug__":Str))=false:=by decide):
  PE X (.Call ϑ [] [] pos) (aeK C):=by
 show Ö;apply xE (vT I Z hm ?_ i8);apply PySem.W.callWith_K0 I.fQ kp ?_;let(nm,q,bs,sn,sub,ab,col,dd,k0,k1,k2,k3,k5,cls):=c.obj;let(O,U,_):=cls s.H I.fQ;let xK:=PySem.W.nsMap_none_of_in I.fQ (J1 c) mI;let j:=I;let(hh,g,d,tk,os):=s;apply wpAny_call_exc_sub PySem.F.excBase_Exception O U xK (λh' e m=>?_) Ä;let(t,Y,_):=m.there;let ne:H e=Β:=by
  cases z:H e with
  |none=>rfl
  |some u=>
   let(o,eo):=aeJ (j.ax e u z);let nn:=m.new;symm
 apply(.ref e,_,j.Fe (h2:=h') (t2:=tk) [e] (λb J=>?_) đ Àf (λb o J g=>m.keeps b o g) (λb hb o g=>⟨_,m.keeps b o g⟩),Á,h e ne)
 .let:b≠e:=by simpa using J
  rw[ao this]
 .let:b=e:=by simpa using hb
  subst this;exact .inl ⟨ne,m.new⟩
 .let:b=e:=by simpa using hb
  subst this;rw[aq] at hu;cases hu;exact tm Y ⟨Á,Á,_,Á,Á⟩
def Dp.inj{pins:bJ}{σ:St}{H:Hp}{s:Sh}(I:Ã H s){d d':PyData}{v:V}(h:Dp X.K H v d):Dp X.K H v d'->d=d':=by
 let no:∀{a xs ys},ϳ a xs->bz X.K H a ys->False:=λm j=>by
  let(_,_,(o1,n1,g1,W,_,_),_):=I.list m;let(_,_,(o2,g2,O,_,_),_):=I.tuple j;rw[g1] at g2;cases g2;rw[W] at O;exact absurd O È
 refine Dp.rec (motive_1:=λv d _=>∀d',Dp X.K H v d'->d=d') (motive_2:=λvs Z _=>∀J,jc X.K H vs J->Z=J)
  (λd' h=>by cases h;rfl) (λb d' h=>by cases h;rfl) (λi d' h=>by cases h;rfl) (λx d' h=>by cases h;rfl) (λm U F d' h=>?_) (λm U F d' h=>?_) (λd' h=>by cases h;rfl) (λ_ _ i1 i2 d' h=>?_) h d'
 .cases h with
  |lst j z=>
   let e:=I.BF m j;subst e;rw[F _ z]
  |tup j z=>exact(no m j).elim
 .cases h with
  |tup j z=>
   let e:=I.QY m j;subst e;rw[F _ z]
  |lst j z=>exact(no j m).elim
 .cases h with
  |cons Y r2=>rw[i1 _ Y,i2 _ r2]
def dataOf:List (Value×PyData)->Value->PyData
 |[],_=>.none
 |(u,d)::r,x=>if u=x then d else dataOf r x
inductive S7(K:FR)(x:V)(y:V)(H:Hp)(Q:VK):Prop
 |mk (p:Addr) (xs:ay) (ds:List PyData) (dx:PyData) (_:y=.ref p) (_:ã p xs) (_:jc K H xs ds) (_:Dp K H x dx) (_:(∀d∈ds,SeqAt.shaped d=true)) (_:SeqAt.shaped dx=true) (_:Q (.bl (ds.any λd=>PyData.eqv d dx)) H)
def S8{pins:bJ}{σ:St}{H:Hp}{s:Sh}(I:Ã H s){xs:ay}:∀{j:List PyData}{U:LV},jc X.K H xs j->a9 xs U->
  ∀(i:Nat)(u:Value)(d:PyData),U[i]? =Α u->j[i]? =Α d->dataOf (U.zip j) u=d/\∃v,Dp X.K H v d/\RelV v u:=by
 induction xs with
 |nil=>
  intro j U hd m i u d h _;cases m;simp at h
 |cons x xs Z=>
  intro j U hd m i u d F h2;cases hd with
  | @cons _ _ e j d1 r1=>
  cases m with
  | @cons _ w _ U v1 r2=>
  show(if w=u then e else dataOf (U.zip j) u)=d/\_;cases i with
  |zero=>
   let W:=aO F;let Y:=aO h2;subst W Y;exact(af Á,x,d1,v1)
  |succ i=>
   let(q1,v,J,O):=Z r1 r2 i u d F h2;apply(?_,v,J,O);by_cases z:w=u
   .subst z;rw[af rfl];let:x=v:=v1.inj O;subst this;exact Dp.inj I d1 J
   .rw[ag z];exact q1
theorem S9{K:FR}{H:Hp}{xs:ay}:∀{j:List PyData},jc K H xs j->xs.L=j.L:=by
 induction xs with
 |nil=>intro j h;cases h;rfl
 |cons x xs m=>
  intro j h;cases h with
  |cons _ r=>rw[df,df,m r]
theorem aeL{α β:Type}{f:α->Bool}{g:β->Bool}{xs:List α}:∀{ys:List β},xs.L=ys.L->(∀(i:Nat)x y,xs[i]? =Α x->ys[i]? =Α y->f x=g y)->xs.any f=ys.any g:=by
 induction xs with
 |nil=>
  intro ys h _;cases ys with
  |nil=>rfl
  |cons _ _=>simp at h
 |cons x xs m=>
  intro ys h k;cases ys with
  |nil=>simp at h
  |cons y ys=>rw[uJ,uJ,k 0 x y rfl rfl,m (À h) λi a b j h2=>k (i+1) a b j h2]
def J4(hu:X.A.units+128<cLine):eU X (compareOp .In) (S7 X.K):=by
 intro pins s σ H x y v u Q I rx ry ⟨p,xs,ds,dx,m,hs,hd,O,sd,sx,q⟩;subst m;cases ry;let(aj,r,pl,hz):=I.list hs;let(as,F):=Dp.reads I dx x v O rx;let z:aj.L=ds.L:=by rw[<-r.L,S9 hd]
 apply SeqAt.in_listAt ţ pl.isList (λw J=>?_) ⟨.bl _,H,I,Á,?_⟩
 .let(i,hi,e):=qV (show w∈aj by simpa using J);let j:aj[i]? =Α w:=by rw[c7 hi,e]
  let h2:ds[i]? =Α ds[i]:=c7 á;let(U,v',W,Y):=S8 I hd r i w _ j h2;rw[U];let(bs,Z):=Dp.reads I _ v' w W Y;let sh:=sd _ (bY h2);apply SeqAt.eqAt_reads _ dx X.A.in1 s w v bs as Z F (Qn sh) (Qn sx) ?_;let:=SeqAt.depth_of_shaped sh;show X.A.units+1+_<_;lia
 .rw[show aj.toArray.any ţ=aj.any ţ by simp];rw[aeL (g:=λd=>PyData.eqv d dx) z λi a b j h2=>by rw[(S8 I hd r i a b j h2).1]];exact q
end L2
namespace L2
open PySem PySem.Spec PyProof.Rows
def bh{K:FR}{H:Hp}{a C dx:Addr}{fs:List (Str×V)}{f:Str}{v:V}{Q:V->Prop}(h:H a=Α Ϡ)(c:lD K C)(n:ϲ f)(l:fs.Q f=Α v)(q:Q v):∃z j m zG F,V.ref a=.ref z/\H z=Α (.ins j m zG)/\lD K j/\gO K j f/\zG.Q f=Α F/\Q F:=⟨a,C,dx,fs,v,rfl,h,c,n,l,q⟩
def cJ{N P:LS}{j:Scope}(k:j.kind=.function:=by rfl)(h:j.isCoroutine=false/\j.isGenerator=false/\N.Nodup/\N.take P.L=P/\(∀x∈P,j.names.Q x=Α .local\/j.names.Q x=Α .cell)/\∀y∈j.names,y.2≠ .free:=by decide+kernel):bQ N P j:=⟨k,h.1,h.2.1,h.2.2.1,h.2.2.2.1,h.2.2.2.2.1,h.2.2.2.2.2⟩
abbrev jw:=List (Addr×HO)
def aX(H:Hp)(ns:jw):Prop:=∀x∈ns,H x.1=Α x.2
def aX.same(h:aX H ns)(s:ai H H'):aX H' ns:=λx j=>s _ _ (h x j)
def aX.upd(h:aX H ns)(n:∀x∈ns,x.1≠D):aX (upd H D o) ns:=λx j=>by rw[ao (n x j)];exact h x j
def aX.nil:aX H []:=λx j=>absurd j Ä
def J5(Z:Nat->V->jw->Prop)(H:Hp)(ys:ay):Prop:=∀i y,ys[i]? =Α y->∃ns,Z i y ns/\aX H ns
def zZ(D:Addr)(Z:Nat->V->jw->Prop)(H:Hp)(ys:ay):Prop:=∀i y,ys[i]? =Α y->∃ns,Z i y ns/\aX H ns/\∀x∈ns,x.1≠D
def zZ.fill(h:zZ D Z H ys):J5 Z H ys:=λi y e=>let ⟨ns,a,b,_⟩:=h i y e;⟨ns,a,b⟩
def zZ.snoc{D:Addr}{Z:Nat->V->jw->Prop}{H j:Hp}{ys:ay}{y:V}{o:HO}{ns:jw}(h:zZ D Z H ys)(s:ai H j)(z:Z ys.L y ns)(l:aX j ns)(n:∀x∈ns,x.1≠D):zZ D Z (upd j D o) (ys++[y]):=λi v e=>by
 by_cases hi:i<ys.L
 .rw[Ik hi] at e;let(F,a,b,c):=h i v e;exact(F,a,(b.E s).upd c,c)
 .rw[Qa Å] at e;let m:i-ys.L=0:=by
   cases z:i-ys.L with
   |zero=>rfl
   |succ k=>rw[z] at e;simp at e
  rw[m] at e;let:y=v:=À e
  subst this;let:i=ys.L:=by grind
  subst this;exact(ns,z,l.upd n,n)
def rN(s:ai H H1)(h:H p=Β):ai H (L2.upd H1 p o):=λb u e=>by rw[ao (eO e h)];exact s b u e
section
variable{K:FR}{g:TG}{tt:TT}{te:TE}{vs:LN}{σ:St}{H1:Hp}{D:Addr}{Qd:Hp->Prop}
def cK(H1:Hp)(D:Addr)(Z:Nat->V->jw->Prop)(i:Nat)(H:Hp):Prop:=∃ys,ai H1 H/\H D=Α Âk/\ys.L=i/\zZ D Z H ys
def cK.zero(j:H1 D=Β):cK H1 D Z 0 ď:=⟨[],rN (λ_ _ e=>e) j,aq,rfl,λi y e=>by simp at e⟩
def cK.step(j:H1 D=Β)(hi:i<1000000)(f:cK H1 D Z i H)(s:ai H H4)(z:Z i y ns)(l:aX H4 ns)(n:∀x∈ns,x.1≠D):
  j8 D (cK H1 D Z (i+1)) y H4:=by
 let(ys,F,hd,m,fd):=f;subst m;refine⟨ys,s _ _ hd,iD hi (by rw[uF];decide),ys++[y],rN (F.R s) j,aq,by simp,fd.snoc s z l n⟩
def cK.same(f:cK H1 D Z i H):ai H1 H:=let ⟨_,s,_⟩:=f;s
def cK.has(f:cK H1 D Z i H):H D≠none:=let ⟨_,_,e,_⟩:=f;by rw[e];simp
def cK.end(f:cK H1 D Z i H):∃ys,ai H1 H/\H D=Α Âk/\ys.L=i/\J5 Z H ys:=let ⟨ys,a,b,c,d⟩:=f;⟨ys,a,b,c,d.fill⟩
def l7{a:Addr}{xs:ay}(j:Nat->Hp->Prop)(h0:j 0 ď)(hl:∀i H,i<=xs.L->j i H->ã a xs)(hs:∀i x T H,xs[i]? =Α x->j i H->H T=Β->g Ų ľ (ϣ (.tup [.int (i:Nat),x])) λσ2 J=>wipe σ2 vs=wipe σ vs/\tt σ2 J λb F=>
   if b=true then te σ2 F (j8 D (j (i+1))) else j (i+1) F) (hd:∀H,j xs.L H->Qd H):
  ∃W:Nat->Nat->Hp->Prop,(∃m,W 0 m ď)/\∀i m H,W i m H->
   ((wx K a).stop i H/\Qd H)\/((wx K a).go i H/\∃Nx:Hp->Prop,(∀H',Nx H'->∃U,U<m/\W (i+1) U H')/\∀x H',(wx K a).nN i H x H'->g x ľ H' λσ2 J=>wipe σ2 vs=wipe σ vs/\tt σ2 J λb F=>
    if b=true then te σ2 F Æb else Nx F):=by
 apply(λi m H=>m=xs.L-i/\i<=xs.L/\j i H,⟨xs.L,by simp,du _,h0⟩,?_);rintro i m H ⟨rfl,hi,p⟩;let q:=hl i H hi p;by_cases O:i<xs.L
 .apply .inr ⟨⟨xs,xs[i],q,by simp[O]⟩,j (i+1),λH' p'=>⟨xs.L-(i+1),by grind,rfl,O,p'⟩,λx H' y=>?_⟩;let(T,z,Y,Z,e3,e4):=y;subst Y e3;exact hs i z T _ (e4 xs q) p Z
 .let e:i=xs.L:=by lia
  subst e;exact .inl ⟨⟨xs,q,bw _⟩,hd H p⟩
end
def and_val{z tB:TT}{σ:St}{H:Hp}{Q:Bool->Hp->Prop}(j m:Bool)(F:∀K:Bool->Hp->Prop,K j H->z σ H K)(J:j=true->∀K:Bool->Hp->Prop,K m H->tB σ H K)(h:Q (j&&m) H):EA z tB σ H Q:=
 F _ (by
  cases j with
  |false=>exact h
  |true=>exact J Á _ h)
def or_val{z tB:TT}{σ:St}{H:Hp}{Q:Bool->Hp->Prop}(j m:Bool)(F:∀K:Bool->Hp->Prop,K j H->z σ H K)(J:j=false->∀K:Bool->Hp->Prop,K m H->tB σ H K)(h:Q (j||m) H):Ja z tB σ H Q:=
 F _ (by
  cases j with
  |true=>exact h
  |false=>exact J Á _ h)
def Ta{z tB:TE}{σ:St}{H:Hp}{Q:VK}(j m:Bool)(F:∀K:VK,K (.bl j) H->z σ H K)(J:j=false->∀K:VK,K (.bl m) H->tB σ H K)(h:Q (.bl (j||m)) H):Jc z tB σ H Q:=
 F _ ⟨j,rfl,by
  cases j with
  |true=>exact h
  |false=>exact J Á _ h⟩
def Fk(c:Bool)(v:V)(m:∀K:Bool->Hp->Prop,K c H->tA σ H K)(j:c=true->∀K:VK,K v H->ta σ H K)(h2:c=false->∀K:VK,K v H->tb σ H K)(h:Q v H):xO tA ta tb σ H Q:=
 m _ (by
  cases c with
  |true=>exact j Á _ h
  |false=>exact h2 Á _ h)
def Tb{D}(c:Bool)(v:V)(m:∀K:Bool->Hp->Prop,K c H->tA σ H K)(j:c=true->∀K:VK,K v H->ta σ H K)(h2:c=false->∀K:VK,K v H->tb σ H K)(h:D.nx ł H):zB (xO tA ta tb) (qf i) D σ H:=
 Fk c v m j h2 h
def Tc{i:Nat}{v:V}{σ:St}{H:Hp}{t u:TS}{D}(h:t {D with nx:=u D} ł H):qf i v σ H (Jd t u D):=h
section
variable{K:FR}{g:TG}{tt:TT}{te:TE}{vs:LN}{σ:St}{H1:Hp}{D:Addr}{Qd:Hp->Prop}
def aeN(j:Nat->Hp->Prop)(U:j 0 ď)(Y:∀i H,i<=kvs.L->j i H->H d=Α ϯ)(hs:∀i k v T H,kvs[i]? =Α (k,v)->j i H->H T=Β->g Ų ľ (ϣ Çt) λσ2 F=>wipe σ2 vs=wipe σ vs/\tt σ2 F λb z=>
   if b=true then te σ2 z (j8 D (j (i+1))) else j (i+1) z) (hd:∀H,j kvs.L H->Qd H):
  ∃W:Nat->Nat->Hp->Prop,(∃m,W 0 m ď)/\∀i m H,W i m H->
   ((wu d o kvs).stop i H/\Qd H)\/((wu d o kvs).go i H/\∃Nx:Hp->Prop,(∀H',Nx H'->∃O,O<m/\W (i+1) O H')/\∀x H',(wu d o kvs).nN i H x H'->g x ľ H' λσ2 F=>wipe σ2 vs=wipe σ vs/\tt σ2 F λb z=>
    if b=true then te σ2 z Æb else Nx z):=by
 apply(λi m H=>m=kvs.L-i/\i<=kvs.L/\j i H,⟨kvs.L,by simp,du _,U⟩,?_);rintro i m H ⟨rfl,hi,p⟩;let q:=Y i H hi p;by_cases J:i<kvs.L
 .apply .inr ⟨⟨q,J⟩,j (i+1),λH' Z=>⟨kvs.L-(i+1),by grind,rfl,J,Z⟩,λx H' y=>?_⟩;let(T,k,v,e1,e2,e3,e4):=y;symm
 .let e:i=kvs.L:=by lia
  subst e;exact .inl ⟨⟨q,bw _⟩,hd H p⟩
end
section
variable{K:FR}{g:TG}{tb:TS}{D:Ends}{σ:St}{H:Hp}
def aeO{d:Addr}{o:Obj}{kvs:List (Key×V)}(j:Nat->St->Hp->Prop)(O:j 0 σ H)(U:∀i σ H,i<=kvs.L->j i σ H->H d=Α ϯ)(hs:∀i k v T σ H,kvs[i]? =Α (k,v)->j i σ H->H T=Β->g Ų σ (ϣ Çt) λσ2 z=>tb {D with nx:=j (i+1),ct:=j (i+1),bk:=D.nx} σ2 z) (hd:∀σ H,j kvs.L σ H->D.nx σ H):
  ∃W:Nat->Nat->St->Hp->Prop,(∃m,W 0 m σ H)/\∀i m σ H,W i m σ H->
   ((wu d o kvs).stop i H/\D.nx σ H)\/((wu d o kvs).go i H/\∃N:St->Hp->Prop,(∀σ' H',N σ' H'->∃J,J<m/\W (i+1) J σ' H')/\∀x H',(wu d o kvs).nN i H x H'->g x σ H' λσ2 z=>tb {D with nx:=N,ct:=N,bk:=D.nx} σ2 z):=by
 apply(λi m σ H=>m=kvs.L-i/\i<=kvs.L/\j i σ H,⟨kvs.L,by simp,du _,O⟩,?_);rintro i m σ H ⟨rfl,hi,p⟩;let q:=U i σ H hi p;by_cases F:i<kvs.L
 .apply .inr ⟨⟨q,F⟩,j (i+1),λσ' H' Y=>⟨kvs.L-(i+1),by omega,rfl,F,Y⟩,λx H' y=>?_⟩;let(T,k,v,Z,e2,e3,e4):=y;symm
 .let e:i=kvs.L:=by omega
  subst e;exact .inl ⟨⟨q,bw _⟩,hd σ H p⟩
def aeP{d:Addr}{o:Obj}{kvs:List (Key×V)}(j:Nat->St->Hp->Prop)(O:j 0 σ H)(U:∀i σ H,i<=kvs.L->j i σ H->H d=Α ϯ)(hs:∀i k v σ H,kvs[i]? =Α (k,v)->j i σ H->g v σ H λσ2 z=>tb {D with nx:=j (i+1),ct:=j (i+1),bk:=D.nx} σ2 z) (hd:∀σ H,j kvs.L σ H->D.nx σ H):
  ∃W:Nat->Nat->St->Hp->Prop,(∃m,W 0 m σ H)/\∀i m σ H,W i m σ H->
   ((B6 d o kvs).stop i H/\D.nx σ H)\/((B6 d o kvs).go i H/\∃N:St->Hp->Prop,(∀σ' H',N σ' H'->∃J,J<m/\W (i+1) J σ' H')/\∀x H',(B6 d o kvs).nN i H x H'->g x σ H' λσ2 z=>tb {D with nx:=N,ct:=N,bk:=D.nx} σ2 z):=by
 apply(λi m σ H=>m=kvs.L-i/\i<=kvs.L/\j i σ H,⟨kvs.L,by simp,du _,O⟩,?_);rintro i m σ H ⟨rfl,hi,p⟩;let q:=U i σ H hi p;by_cases F:i<kvs.L
 .apply .inr ⟨⟨q,F⟩,j (i+1),λσ' H' Y=>⟨kvs.L-(i+1),by omega,rfl,F,Y⟩,λx H' y=>?_⟩;let(Z,k,e2):=y;symm
 .let e:i=kvs.L:=by omega
  subst e;exact .inl ⟨⟨q,bw _⟩,hd σ H p⟩
def Td{a b:Addr}{xs ys:ay}(U:xs.L=ys.L)(Pv:Nat->St->Hp->Prop)(h0:Pv 0 σ H)(hl:∀i σ H,i<=xs.L->Pv i σ H->ã a xs/\ã b ys)(hs:∀i x y T σ H,xs[i]? =Α x->ys[i]? =Α y->Pv i σ H->H T=Β->g Ų σ (ϣ Çj) λσ2 j=>tb {D with nx:=Pv (i+1),ct:=Pv (i+1),bk:=D.nx} σ2 j) (hd:∀σ H,Pv xs.L σ H->D.nx σ H):
  ∃W:Nat->Nat->St->Hp->Prop,(∃m,W 0 m σ H)/\∀i m σ H,W i m σ H->
   ((Cb K a b).stop i H/\D.nx σ H)\/((Cb K a b).go i H/\∃N:St->Hp->Prop,(∀σ' H',N σ' H'->∃O,O<m/\W (i+1) O σ' H')/\∀x H',(Cb K a b).nN i H x H'->g x σ H' λσ2 j=>tb {D with nx:=N,ct:=N,bk:=D.nx} σ2 j):=by
 refine ð;rintro i m σ H ⟨rfl,hi,p⟩;let(F,J):=hl i σ H hi p;by_cases z:i<xs.L
 .apply .inr ⟨⟨xs,ys,xs[i],ys[i],F,J,by simp[z],by simp[<-U,z]⟩,Pv (i+1),λσ' H' p'=>⟨xs.L-(i+1),by grind,rfl,z,p'⟩,λx H' y=>?_⟩;let(T,x1,y1,Y,Z,e3,e4,e5):=y;subst Y e3;exact hs i x1 y1 T σ _ (e4 xs F) (e5 ys J) p Z
 .let e:i=xs.L:=by lia
  subst e;exact .inl ⟨⟨xs,ys,F,J,.inl (bw _)⟩,hd σ H p⟩
end
section
variable{β:Type}(g:β->V)
def bG(t:List (Nat×β)):List (Key×V):=t.M λp=>((Sum.inl ((p.1:Nat):Int):Key),g p.2)
def b7(t:List (Nat×β))(s:Nat):Option β:=(t.find? λp=>decide (p.1=s)).M (·.2)
def eC(t:List (Nat×β))(s:Nat)(v:β):List (Nat×β):=if (t.any λp=>decide (p.1=s))=true then t.M (λp=>if p.1=s then (p.1,v) else p) else t++[(s,v)]
def Te(a b:Nat):decide ((Sum.inl ((a:Nat):Int):Key)=Sum.inl ((b:Nat):Int))=decide (a=b):=by
 grind
theorem z4(t:List (Nat×β)):∀(s:Nat),gi (bG g t) (Sum.inl ((s:Nat):Int))=(b7 t s).M g:=by
 induction t with
 |nil=>exact @λs=>Á
 |cons p t j=>
  intro s;let j:=j s;delta bG b7 gi at j⊢;rw[a8,k9,k9];rw[Te];cases decide (p.1=s) with
  |true=>rfl
  |false=>exact j
def aeQ(t:List (Nat×β))(s:Nat):((bG g t).any λkv=>decide (kv.1=Sum.inl ((s:Nat):Int)))=t.any λp=>decide (p.1=s):=by
 ext bG;rw[Qe];congr 1;funext p;exact Te p.1 s
def Cm(t:List (Nat×β))(s:Nat)(v:β):putK (bG g t) (Sum.inl ((s:Nat):Int)) (g v)=bG g (eC t s v):=by
 ext putK eC;rw[aeQ];split
 .ext bG;rw[cZ,cZ];apply lh λp _=>?_;lia
 .ext bG;simp
def yg(t:List (Nat×β)):(bG g t).L=t.L:=by ext bG;rw[az]
theorem J6{t:List (Nat×β)}{i:Nat}{k:Key}{v:V}(h:(bG g t)[i]? =Α (k,v)):∃s b,t[i]? =Α (s,b)/\k=Sum.inl ((s:Nat):Int)/\v=g b:=by
 delta bG at h;rw[bU] at h;cases e:t[i]? with
 |none=>rw[e] at h;cases h
 |some p=>
  rw[e] at h;let h:=aO h;apply(p.1,p.2,Á,?_,?_)
  .exact(cw Prod.fst h).symm
  .exact(cw Prod.snd h).symm
theorem qm(t:List (Nat×β))(s:Nat):(t.any λp=>decide (p.1=s))=(b7 t s).isSome:=by
 induction t with
 |nil=>rfl
 |cons p t j=>
  delta b7 at j⊢;rw[uJ,k9];cases e:decide (p.1=s) with
  |true=>rfl
  |false=>rw[Qj];exact j
theorem Fl(s j:Nat)(v:β):∀t:List (Nat×β),b7 (t.M λp=>if p.1=s then (p.1,v) else p) j=(b7 t j).M λx=>if j=s then v else x:=by
 intro t;induction t with
 |nil=>exact Á
 |cons p t m=>
  let m:=m;delta b7 at m⊢;rw[a8,k9,k9];let z:(if p.1=s then (p.1,v) else p).1=p.1:=by split <;> rfl
  rw[z];cases e:decide (p.1=j) with
  |false=>exact m
  |true=>
   let e:=sE e;show some ((if p.1=s then (p.1,v) else p).2)=Α (if j=s then v else p.2);rw[<-e];by_cases h:p.1=s
   .rw[af h,af h]
   .rw[ag h,ag h]
theorem aeR(t:List (Nat×β))(s j:Nat)(v:β)(h:b7 t s=Β):b7 (t++[(s,v)]) j=if j=s then some v else b7 t j:=by
 induction t with
 |nil=>
  show((([(s,v)]:List (Nat×β)).find? λp=>decide (p.1=j)).M (·.2))=_;rw[k9];by_cases e:s=j
  .dsimp only;rw[eN e,af e.symm];rfl
  .dsimp only;rw[fZ e,ag λz=>e z.symm];rfl
 |cons p t F=>
  delta b7 at F h⊢;rw[k9] at h;rw[List.cons_append,k9,k9];cases es:decide (p.1=s) with
  |true=>rw[es] at h;cases h
  |false=>
   rw[es] at h;cases m:decide (p.1=j) with
   |false=>exact F h
   |true=>
    let m:=sE m;let es:=arP es;rw[ag λz=>es (m.R z)]
theorem Fm(t:List (Nat×β))(s j:Nat)(v:β):b7 (eC t s v) j=if j=s then some v else b7 t j:=by
 ext eC;rw[qm];cases e:b7 t s with
 |none=>
  exact aeR t s j v e
 |some x=>
  rw[af (show(some x).isSome=true from rfl),Fl];by_cases h:j=s
  .symm
  .symm
def Tf(t:List (Nat×β))(s:Nat)(v:β):(eC t s v).L<=t.L+1:=by
 ext eC;grind
def Tg(t:List (Nat×β))(s:Nat)(v:β):(eC t s v).M (·.1)=if (b7 t s).isSome=true then t.M (·.1) else t.M (·.1)++[s]:=by
 ext eC;rw[qm];split
 .rw[cZ];apply lh λp _=>?_;lia
 .simp
def aeS{t:List (Nat×β)}{s:Nat}(h:b7 t s=Β):s∉t.M (·.1):=by
 intro m;let(p,j,e):=b9.mp m;let q:(t.any λp=>decide (p.1=s))=true:=pX.mpr ⟨p,j,eN e⟩;rw[qm,h] at q;cases q
theorem Fn{t:List (Nat×β)}{s:Nat}{v:β}(h:(t.M (·.1)).Nodup):((eC t s v).M (·.1)).Nodup:=by
 rw[Tg];cases e:b7 t s with
 |some x=>exact h
 |none=>exact JT h (aeS e)
theorem z5{t:List (Nat×β)}(h:(t.M (·.1)).Nodup){s:Nat}{v:β}(m:(s,v)∈t):b7 t s=Α v:=by
 induction t with
 |nil=>symm
 |cons p t j=>
  rw[a8,jZ] at h;delta b7 at j⊢;grind
def yh(h:b7 t s=Α v):(s,v)∈t:=by
 delta b7 at h;let(p,j,e):=zf.mp h;grind
theorem aeT(g:β->V):∀(t j:List (Nat×β)),((j++t).M (·.1)).Nodup->uX (bG g j) (bG g t)=bG g (j++t):=by
 intro t;induction t with
 |nil=>
  intro j _;rw[jG];rfl
 |cons p t z=>
  intro j h;let h2:p.1∉j.M (·.1):=by
   rw[bZ,a8] at h;let:=(Iv.mp h).2.2;exact λm=>this _ m _ gn Á
  let e:b7 j p.1=Β:=by
   cases e:b7 j p.1 with
   |none=>rfl
   |some x=>exact absurd (b9.mpr ⟨_,yh e,Á⟩) h2
  let z:=z (j++[p]) (by rw[qW];exact h);let ep:putK (bG g j) (Sum.inl ((p.1:Nat):Int)) (g p.2)=bG g (j++[p]):=by
   rw[Cm];ext eC;rw[qm,e];rfl
  show uX (putK (bG g j) (Sum.inl ((p.1:Nat):Int)) (g p.2)) (bG g t)=_;rw[ep,z,qW];rfl
end
section
variable{X:Cx}{pins:bJ}{σ:St}{H:Hp}{s:Sh}{a:Addr}{kvs:List (Key×V)}{k:Key}{d:V}{u r:Value}{A:Around}{E:VP}
def aeU(I:Ã H s)(e:H a=Α ē)(hl:kvs.L<sizeLine)(ry:RelV (kV k) u)(rd:RelV d r)(O:∀v,gi kvs k=Α v->∀W s',Ã H s'->RelV v W->Q W s')(h2:gi kvs k=Β->∀s',Ã (Ů (.dK (Œ d))) s'->Q r s'):wpAny É A (call (.builtin "dict.setdefault") [.ref a,u,r]) Q E s:=by
 let(z,hd,vs,m,dd):=EU I.ax e;let hz:vs.L<=sizeLine:=by rw[<-m.L];exact z
 let ju:(Œ d).L<=sizeLine:=by let:=BZ kvs k d;lia
 apply Eg PySem.F.slot_dict_setdefault dd.typeIs PySem.F.entry_dict_setdefault (PySem.F.args_dict_setdefault_3 _ _ _) (kt_meets_setdefault ĉ a (wo ry) hd r) ⟨vs,dd,hz,λv Z=>?_,λY h' J hs=>?_⟩
 .let q:=m.val k;rw[Z] at q;cases j:gi kvs k with
  |none=>rw[j] at q;exact q.elim
  |some y=>
   rw[j] at q;exact O y j v _ (I.tok _) q
 .let q:=m.val k;rw[Y] at q;let j:gi kvs k=Β:=by
   cases j:gi kvs k with
   |none=>rfl
   |some y=>rw[j] at q;exact q.elim
  apply h2 j _ ?_;let U:∃q,h'.I a=Α q:=let ⟨q,_,_,hq,_⟩:=J;⟨q,hq⟩;exact JO I (by rw[e];exact True.intro) hs U (Sd ju hd (m.put k rd) J)
end
def aeV(td J F:TE):TE:=λσ H Q=>td σ H λx H1=>∃a,x=.ref a/\EW H1 a/\J σ H1 λy m=>F σ m λz j=>∃kvs k,j a=Α ē/\y=kV k/\kvs.L<sizeLine/\(∀v,gi kvs k=Α v->Q v j)/\(gi kvs k=Β->Q z (upd j a (.dK (Œ z))))
def aeW(ho:PE X o td)(he:ϥ ty)(hf:PE X f tx)(m:M2 X o "setdefault" i4 e f gh):PE X (.Call (.Attribute o "setdefault" i4) [e,f] [] gh) (aeV td ty tx):=by
 show Ö;apply Iu m.base m.dh m.line PySem.F.plainAttrs_dict PySem.F.slot_dict_setdefault PySem.F.type_dict_setdefault (aL (ho pins s σ H _ I h) λu s1 ⟨x,H1,J,rx,a,ex,d,q1⟩=>?_);subst ex;obtain rfl:u=Value.ref a:=rx;let(t1,t2,_):=JQ J d;refine Èi;rw[m.trees];refine Il Á (Qc (D6 (aL (he pins s1 σ H1 _ J q1) λiv s2 ⟨y,U,Y,ry,q2⟩=>
  D6 (aL (hf pins s2 σ U _ Y q2) λfv s3 ⟨z,W,Z,O,kvs,k,e3,ey,hl,q3,q4⟩=>P9 ?_))))
 subst ey;exact aeU Z e3 hl ry O (λv ev w' s4 j jb=>⟨_,W,j,jb,q3 v ev⟩) λen s4 j=>⟨_,_,j,O,q4 en⟩
section
variable{prog:Pg}{w:Wd}{Kt:Type}[DecidableEq Kt]
def aeX(knd:KeyKind prog w Kt)(a b:Addr)(W:(a==sysModules)=false)(Y:(b==sysModules)=false):
  MeetsIn prog w (Builtin.«dict.__eq__» ⟨[.ref a,.ref b],[]⟩) (λ_ R s=>∃vs:List (Kt×Value),s.H.DictOf knd a vs/\s.H.DictOf knd b []/\R (.ok (.ret (.bool vs.isEmpty))) s):=
 .of_wp λA R s ⟨vs,F,j,h⟩=>by
  show wpAny _ _ (Builtin.Dict.dictSlotArgs "__eq__" ⟨[.ref a,.ref b],[]⟩ >>= _) _ _ s;apply au ?_;ext Builtin.Dict.dictSlotArgs;apply au (wpAny_notOrdered_dict F.typeIs ?_);show wpAny _ _ (pure (Value.ref a,Value.ref b)) _ _ s;apply aP ?_;apply au (Qo (b:=true) j.typeIs Ò ?_);show wpAny _ _ (Builtin.Dict.samePairs "dict.__eq__" a b >>= _) _ _ s;let(o,es,ep,m,g2,z,g4,U,g6):=F;let(o2,J,Th,k1,k2,k3,k4,k5,k6):=j;let Z:es.u=vs.L:=by
   let:=U.L
   rwa [ml] at this
  let l2:J.u=0:=by
   let:=k5.L
   rwa [ml] at this
  apply au ?_;ext Builtin.Dict.samePairs;ext Builtin.Dict.showsAll;rw[ag (by rw[W];exact d8),ag (by rw[Y];exact d8)];apply au (aP (au (aP (au (wpAny_dictEntries m z ?_)))));dsimp only;apply au (wpAny_dictEntries k1 k3 ?_);rw[Z,l2];cases vs with
  |nil=>
   rw[ag Ä];let fin:wpAny Ë A.in1 (pure true) (λa s'=>wpAny Ë A.in1 (ret (Value.bool (a==true))) (λfin s'=>∃v,fin=Fin.done (Flow.ret v)/\R (Except.ok (Flow.ret v)) s') (λe s'=>R (Except.error e) s') s') (λe s'=>R (Except.error e) s') s:=aP (aP ⟨_,rfl,h⟩);apply au (wpAny_dictEpoch m z ?_);rw[show(([]:List (Kt×Value)).L)=0 from rfl];let O:∀(f:Nat->Option Bool×Unit->Sem (ForInStep (Option Bool×Unit))),(forIn [:0] ((none,()):Option Bool×Unit) f:Sem _)=pure (none,()):=λf=>by
    simp
   rw[O];exact au (aP fin)
  |cons p r=>
   rw[af Ä];exact au (zi (aP (aP ⟨_,Á,h⟩)))
end
inductive aeY(x:V)(y:V)(H:Hp)(Q:VK):Prop
 |mk (a b kvs:_) (_:x=.ref a) (_:y=.ref b) (_:H a=Α ē) (_:H b=Α Àz) (_:Q (.bl kvs.isEmpty) H)
def aeZ(hu:X.A.units+64<cLine):eU X Áo aeY:=by
 intro pins s σ H x y v u Q I rx ry ⟨a,b,kvs,O,U,h1,h2,q⟩;subst O U;cases rx;cases ry;let(z,hd,vs,Z,dd):=EU I.ax h1;let(z2,Y,vs2,j,J):=EU I.ax h2;cases j;let W:vs.isEmpty=kvs.isEmpty:=by cases Z <;> rfl
 show wpAny É X.A (richCompare .Eq ā (.ref b)) _ _ s;let m:s.TypeIs ā "dict":=dd.typeIs;let hc:wpAny É X.A (call (.builtin "dict.__eq__") [.ref a,.ref b]) (λv s'=>v≠ .notImplemented/\(ô Q v s')) X.xe s:=
  Eg PySem.F.slot_dict_eq m PySem.F.entry_dict_eq (PySem.F.args_dict_eq_2 _ _) (aeX ĉ a b hd Y) ⟨vs,dd,J,(λz=>(by cases z)),.bl vs.isEmpty,H,I,rfl,by rw[W];exact q⟩
 exact wpAny_richCompare_same_room m J.typeIs PySem.F.slot_dict_eq hc Ô
theorem ae2{α β:Type}{R:α->β->Prop}{m:List α}:∀{j:List β},m.L=j.L->(∀(i:Nat)(a:α)(b:β),m[i]? =Α a->j[i]? =Α b->R a b)->Paired R m j:=by
 induction m with
 |nil=>
  intro j z _;cases j with
  |nil=>exact .nil
  |cons _ _=>cases z
 |cons a m J=>
  intro j z h;cases j with
  |nil=>cases z
  |cons b j=>exact .cons (h 0 a b Á Á) (J (À z) λi x y F h2=>h (i+1) x y F h2)
def ae3:j5 X (.type "range") (λxs H Q=>∃n:Nat,xs=[.int ((n:Nat):Int)]/\∀p,H p=Β->Q ĝ (upd H p (.sL 0 n))):=by
 intro pins s σ H xs U Q I r h;let(n,rfl,q):=h;let(u,rfl,j):=vals1 r;let(t,rfl):=j;apply call_range_1 ?_;exact(.ref s.Z,_,I.laid Ås (bw _) (show fO X.prog X.w _ _ _ (.sL 0 ((n:Nat):Int)) from⟨_,_,_,eY _ rfl⟩),Á,q _ ğ)
def ae4(hc:X.calm=true):j5 X (.type "list") (λxs H Q=>∃(p:Addr)(n:Nat),xs=[.ref p]/\H p=Α (.sL 0 ((n:Nat):Int))/\n<=1000000/\∀l,H l=Β->Q Ãc (Ϣ (.lst ((List.range n).M λi=>V.int ((i:Nat):Int))))):=by
 intro pins s σ H xs us Q I r h;let(p,n,rfl,U,hn,q):=h;let(u,rfl,rx):=vals1 r;cases rx;let(t,u,v,e):=(I.ax p _ U);apply call_list_range (n:=n) Ā e (small_one Ù Ù Å Ô) (by rw[rangeSize_one];split <;> simp_all) Ô λh' tk z J hk O Z=>?_;let Y:a9 ((List.range n).M λi=>V.int ((i:Nat):Int)) z.toList:=by
  apply ae2 (by rw[az,gq,ml,Z.1]) λi a b m h2=>?_;rw[zk] at h2;let(t',W):=Z.2 i b h2;rw[bU] at m;cases er:Èx[i]? with
  |none=>symm
  |some j=>
   rw[er] at m;let(e1,F):=bO.mp er;rw[arR] at F;subst F;cases m;subst W;apply(t',?_);simp
 apply(.ref s.Z,_,I.laid (t':=tk) hk (bw _) (show fO X.prog X.w _ h' _ (.lst ((List.range n).M λi=>V.int ((i:Nat):Int))) from⟨?_,z.toList,J,Y,O⟩),Á,q _ ğ);rw[az,gq,uF];lia
abbrev qo:=d9×Addr×Value
def J7(acc bT:List qo):List qo:=bT.foldl (λa q=>storedH a q.1 q.2.1 q.2.2) acc
section
variable{prog:Pg}{w:Wd}
def Tj{h h':Heap}{k:d9}{a:Addr}(i:(tupleKind Åd).is h k a)(e:∀o,h.I a=Α o->h'.I a=Α o):(tupleKind Åd).is h' k a:=by
 let(o,j,n,m,h2,z,F):=i;exact(o,j,n,e o m,h2,z,F)
def ae5{h h':Heap}{S:Addr}{xs:List qo}(d:h.DictOfH (tupleKind Åd) S xs)(e:∀o,h.I S=Α o->h'.I S=Α o)(W:∀x∈xs,∀o,h.I x.2.1=Α o->h'.I x.2.1=Α o):h'.DictOfH (tupleKind Åd) S xs:=by
 let(o,es,ep,m,z,F,J,O,U):=d;exact(o,es,ep,e o m,z,F,J,λx j=>Tj (O x j) (W x j),U)
def ae6{xs:List qo}{k:d9}{a:Addr}{v:Value}{x:qo}(h:x∈storedH xs k a v):x.2.1=a\/∃y∈xs,x.2.1=y.2.1:=by
 delta storedH at h;split at h
 .let(y,j,e):=b9.mp h;apply .inr ⟨y,j,?_⟩;delta putAt at e;split at e <;> rw[<-e]
 .rcases gM.mp h with h|h
  .exact .inr ⟨x,h,Á⟩
  .let:x=(k,a,v):=by simpa using h
   exact .inl (by rw[this])
def ae7(xs:List qo)(k:d9)(a:Addr)(v:Value):(storedH xs k a v).L<=xs.L+1:=by
 ext storedH;grind
end
def rO(kvs:List (d9×V))(ts:List (d9×Addr×V)):List (d9×V):=ts.foldl (λacc t=>putK acc t.1 t.2.2) kvs
theorem ae8(ts:List (d9×Addr×V)):∀(kvs:List (d9×V)),(rO kvs ts).L<=kvs.L+ts.L:=by
 induction ts with
 |nil=>exact @λkvs=>bw _
 |cons t ts j=>
  intro kvs;let m:=j (putK kvs t.1 t.2.2);let h2:=BZ kvs t.1 t.2.2;show(rO (putK kvs t.1 t.2.2) ts).L<=_;rw[df];lia
theorem ae9{H:Hp}:∀{ts:List (d9×Addr×V)}{prs:List qo}{kvs:List (d9×V)}{xs:List qo},Paired (λ(t:d9×Addr×V)(q:qo)=>t.1=q.1/\t.2.1=q.2.1/\H t.2.1=Α (.tup (t.1.M kV))/\RelV t.2.2 q.2.2) ts prs->KT H kvs xs->KT H (rO kvs ts) (J7 xs prs):=by
 intro ts prs kvs xs j;induction j generalizing kvs xs with
 |nil=>exact λk=>k
 | @cons t q ts prs h r ih=>
  intro k;let(m,h2,z,F):=h;apply ih (kvs:=putK kvs t.1 t.2.2) (xs:=storedH xs q.1 q.2.1 q.2.2) ?_;rw[<-m,<-h2];exact k.put t.1 z F
section
variable{X:Cx}
def afa(hu:X.A.units+3<cLine)(JS:X.calm=true):j5 X (.type "dict") (λxs H Q=>∃(a:Addr)(ps:LA)(ts:List (d9×Addr×V)),xs=[.ref a]/\ϳ a Âd/\Paired (λp(t:d9×Addr×V)=>H p=Α (.tup [.ref t.2.1,t.2.2])/\H t.2.1=Α (.tup (t.1.M kV))) ps ts/\
  ∀p,H p=Β->Q ĝ (upd H p Çn)):=by
 intro pins s σ H xs us Q I r q;let(a,ps,ts,ex,hq,O,q):=q;subst ex;let(u,eu,rx):=vals1 r;subst eu;cases rx;let(aj,W,pl,hz):=I.list hq;let F:=Sm W;subst F;rw[az] at hz;let m:∀{ps:LA}{ts:List (d9×Addr×V)},Paired (λp(t:d9×Addr×V)=>H p=Α (.tup [.ref t.2.1,t.2.2])/\H t.2.1=Α (.tup (t.1.M kV))) ps ts->
   ∃prs:List qo,Paired (λ(t:d9×Addr×V)(q:qo)=>t.1=q.1/\t.2.1=q.2.1/\H t.2.1=Α (.tup (t.1.M kV))/\RelV t.2.2 q.2.2) ts prs/\prs.L=ps.L/\∀(j:Nat)(q:qo),prs[j]? =Α q->∃b:Addr,ps[j]? =Α b/\IsTup s.H b #[.ref q.2.1,q.2.2]/\(tupleKind ĉ).is s.H q.1 q.2.1:=by
  intro ps ts O;induction O with
  |nil=>exact([],.nil,Á,λj q e=>by simp at e)
  | @cons p t ps ts h _ ih=>
   let(prs,r1,r2,r3):=ih;let(_,aj,W,ob,o1,o2,n,o3):=(I.ax p _ h.1);let(u,y,F,ru,ry):=vals2 W;subst F;cases ru;apply((t.1,t.2.1,y)::prs,.cons ⟨Á,Á,h.2,ry⟩ r1,by rw[df,df,r2],λj q e=>?_);cases j with
   |zero=>
    let e':=aO e;subst e';exact(p,Á,⟨ob,o1,o2,n,o3⟩,x8 I.ax h.2)
   |succ j=>
    let(b,Y,z):=r3 j q (À e);exact(b,À Y,z)
 let(prs,fe,hl,g8):=m O;let(o,n,ho,hc,hd,uY):=pl;refine Sk (prs:=prs) (DD:=λh acc=>h.DictOfH Èp s.Z acc/\∀x∈acc,x.2.1<s.Z) (G:=λh q u y=>u=.ref q.2.1/\y=q.2.2/\q.2.1<s.Z/\(tupleKind ĉ).is h q.1 q.2.1) (st:=λa q=>storedH a q.1 q.2.1 q.2.2) (I.ok.hd JS) ho hc hd uY (by simp[hl]) Å ⟨Heap.DictOfH.new s.H,by simp⟩ (λ_ _ _ d k=>⟨ae5 d.1 (λo e=>k _ o (bw _) e) λx U o e=>k _ o (qU (d.2 x U)) e,d.2⟩) (λ_ _ _ _ _ g k=>⟨g.1,g.2.1,g.2.2.1,Tj g.2.2.2 λo e=>k _ o g.2.2.1 e⟩)
  (λ_ acc q _ _ _ _ g d hz k=>by
   let(rfl,rfl,g1,g2):=g;apply wpAny_dictSet_heap (knd:=tupleKind ĉ) (Ef (oN (show X.A.units+1+1<=X.A.units+3 by simp_all) hu)) g2 d.1 (λh' J=>k h' _ ⟨J,λx U=>?_⟩) hz;rcases ae6 U with e|⟨y,hy,e⟩
   .rw[e];exact g1
   .rw[e];exact d.2 y hy) (λa q=>ae7 a q.1 q.2.1 q.2.2) Èj λh' tk qd k=>?_
 .let(b,Y,z,Z):=g8 j q' e;exact(b,_,_,by simp_all,z,rfl,rfl,by let(o,_,_,g,_):=Z;exact cq g,Z)
 .let J:=xD.mpr (qS I.big);let cE:(rO [] ts).L<=sizeLine:=by
   apply gS (ae8 ts []) ?_;rw[sy,xH,Paired.length fe,hl];omega
  let j7:=I.ax.fresh (bw _);let((q2,es,ep,yi,g2,g3,g4,g5,g6),_):=qd;let kt:KT (Ĕ Çn) (rO [] ts) (J7 [] prs):=(ae9 fe (kvs:=[]) (xs:=[]) .nil).keeps λb ys e=>by
   rw[ao (eO e j7)];omega
  exact(.ref s.Z,Ĕ Çn,I.laid (t':=tk) k (bw _) (⟨cE,J,J7 [] prs,kt,q2,es,ep,yi,g2,g3,g4,g6⟩),Á,q _ j7)
end
end L2
namespace HT
open PySem PyProof.Rows
section
open PySem.SeqAt
open PySem.AutoSeq1 (wpAny_loadPart')
open PySem.MeetsSeq PySem.MeetsSeq2 PySem.MeetsSeq3
def To{items:Array Value}{i:Nat}{v:Value}{r:LV}(h:items.toList.drop i=v::r):items[i]? =Α v/\items.toList.drop (i+1)=r:=by
 let j:(items.toList.drop i)[0]? =Α v:=by rw[h];rfl
 rw[Qp,ZD,zk] at j;apply(j,?_);let:(items.toList.drop i).drop 1=r:=by rw[h];rfl
 rw[List.drop_drop] at this;exact this
theorem afc(l b:Addr)(items j:Array Value)(n n2:Nat)(dd mJ:OA)(sl nR:AO)(k:Nat):∀(i:Nat)(ns ms:LI),IntsAre (items.toList.drop i) ns->IntsAre (j.toList.drop i) ms->ns.L=k->i<=items.u->i<=j.u->
  Meets (Builtin.«list.__eq__.loop» ⟨[.ref l,.ref b,rawInt i,rawInt 0],[]⟩)
   (λ_ R s=>s.U l=Α {cls:=.type "list",dict:=dd,data:=.seq items n,slots:=sl}/\s.U b=Α {cls:=.type "list",dict:=mJ,data:=.seq j n2,slots:=nR}/\
    R (.ok (.ret ϐ)) s):=by
 induction k with
 |zero=>
  intro i ns ms hi O hk h1 h2 prog w A R s h;let(Z,g,d,tk,os):=s;let(z,m,h):=h;let Y:ns=[]:=Qq.mp hk;subst Y;let J:=hi.L;let F:=O.L;rw[Zw,ml] at J F;simp only[sy] at J;let U:items[((i:Nat):Int).toNat]? =Β:=by simp;lia
  wp_walk using jo z,jo m
  rw[U]
  wp_walk using jo z,jo m
  show R (.ok (.ret (.bool (decide (items.u<j.u))))) _;let e:lexLt [] ms=decide (items.u<j.u):=by
   cases ms with
   |nil=>
    rw[Rn];simp only[sy] at F;exact(fZ Ô).symm
   |cons c ms=>
    rw[Ro];simp only[df] at F;exact(eN (by grind)).symm
  rw[<-e];exact h
 |succ k ih=>
  intro i ns ms hi O hk h1 h2 prog w A R s h;let(Z,g,d,tk,os):=s;let(z,m,h):=h;let J:=hi.L;let F:=O.L;rw[Zw,ml] at J F;generalize ed1:items.toList.drop i=d1 at hi;generalize ed2:j.toList.drop i=d2 at O;cases hi with
  |nil=>cases hk
  | @cons a t wz sS tu=>
   let(g1,g2):=To ed1;let U:items[((i:Nat):Int).toNat]? =Α (.int a t):=À g1
   cases O with
   |nil=>
    let W:j[((i:Nat):Int).toNat]? =Β:=by simp only[sy] at F;simp;symm
    wp_walk using jo z,jo m
    rw[U,W]
    wp_walk using jo z,jo m
    show R (.ok (.ret (.bool (decide (items.u<j.u))))) _;rw[Rp] at h;simp only[sy,df] at J F;rw[fZ Ô];exact h
   | @cons c u ws' lE Fp=>
    let(g3,g4):=To ed2;let W:j[((i:Nat):Int).toNat]? =Α (.int c u):=À g3
    let hc:((i:Int)+1)=((i+1:Nat):Int):=by push_cast;rfl
    let z1:i<items.u:=by simp only[df] at J;lia
    let z2:i<j.u:=by simp only[df] at F;lia
    rw[uU] at h
    wp_walk using jo z,jo m
    rw[U,W];apply au (EqGives.int a c t u prog w _ _ _ _ ?_);cases ja:(a==c) with
    |true=>
     rw[af (À ja)] at h
     wp_walk
     rw[hc];exact⟨vN plain_eq_loop _,vM entry_eq_loop (by
      rw[xG plain_eq_loop _];exact ih (i+1) sS lE (by rw[g2];exact tu) (by rw[g4];exact Fp) (À hk) z1 z2 prog w A R _ ⟨z,m,h⟩)⟩
    |false=>
     rw[ag (À ja)] at h
     wp_walk using jo z,jo m
     rw[U,W];let rB:=Ju A.in1 ⟨Z,g,d,tk,os⟩ a t c u prog w
     wp_walk using rB
     exact h
def afe(l b:Addr)(items j:Array Value)(n J:Nat)(dd F:OA)(sl O:AO)(ns ms:LI)(hi:IntsAre items.toList ns)(U:IntsAre j.toList ms):
  Meets (Builtin.«list.__lt__» ⟨[.ref l,.ref b],[]⟩)
   (λ_ R s=>s.U l=Α {cls:=.type "list",dict:=dd,data:=.seq items n,slots:=sl}/\s.U b=Α {cls:=.type "list",dict:=F,data:=.seq j J,slots:=O}/\
    R (.ok (.ret ϐ)) s):=by
 intro prog w A R s h;let(Y,g,d,tk,os):=s;let(z,m,h):=h;let W:=AutoSeq1.sub_list_list
 wp_walk using jo z,jo m
 exact⟨vN plain_eq_loop _,vM entry_eq_loop (by
  rw[xG plain_eq_loop _];exact afc l b items j n J dd F sl O _ 0 ns ms hi U Á (du _) (du _) prog w A R _ ⟨z,m,h⟩)⟩
end
end HT
namespace HT
open PySem PyProof.Rows
section
open PySem.SeqAt
open PySem.AutoSeq1 (wpAny_loadPart')
open PySem.MeetsSeq PySem.MeetsSeq2 PySem.MeetsSeq3
def aff(l b la lb:Addr)(n n2:Nat)(dd mJ:OA)(sl nR:AO)(a c:Int)(t u:Tok)(e r:Bool)(W:e=true->r=false):
  Meets (Builtin.«tuple.__lt__» ⟨[.ref l,.ref b],[]⟩)
   (λA R s=>s.U l=Α {cls:=.type "tuple",dict:=dd,data:=.seq #[.int a t,.ref la] n,slots:=sl}/\s.U b=Α {cls:=.type "tuple",dict:=mJ,data:=.seq #[.int c u,.ref lb] n2,slots:=nR}/\
    EqAt A.in1 s Åb Åa e/\(∀(prog:Pg)(w:Wd)(E:VP)(Q:VP),Q (.bool r) s->wpAny Ë A.in1 (richCompare .Lt Åb Åa) Q E s)/\
    R (.ok (.ret (.bool (if a=c then r else decide (a<c))))) s):=
 .of_wp λprog w A R s h=>by
  let(m,g,d,tk,os):=s;let(hl,hb,U,Y,h):=h;let f2:=arC
  wp_walk using jo hl,jo hb,wpAny_forIn_list _ (λbT b s'=>b.1=Β/\s'=⟨m,g,d,tk,os⟩/\(bT=[(Value.int a t,Value.int c u),(Value.ref la,Value.ref lb)]\/(bT=[(Value.ref la,Value.ref lb)]/\a=c)\/(bT=[]/\a=c/\e=true))) _
  case turn=>
   rintro⟨y,x⟩ bT b s' ⟨J,rfl,hz⟩;rcases hz with hz|⟨hz,j⟩|⟨hz,_⟩
   .injection hz with hyx hrest;injection hyx with hy hx;subst hy hx;let(Z,O,F):=Rq A.in1 ⟨m,g,d,tk,os⟩ a t c u;apply au (O prog w _ _ ?_);cases Z with
    |true=>
     wp_walk
     exact(Á,Á,.inr (.inl ⟨hrest,F.mp Á⟩))
    |false=>
     rw[ag (λq=>absurd (F.mpr q) d8)] at h;let z:=Ju A.in1 ⟨m,g,d,tk,os⟩ a t c u prog w
     wp_walk using z
     exact(_,Á,À h)
   .injection hz with hyx hrest;injection hyx with hy hx;subst hy hx;apply au (U prog w _ _ ?_);cases e with
    |true=>
     wp_walk
     exact(Á,Á,.inr (.inr ⟨hrest,j,Á⟩))
    |false=>
     rw[af j] at h;let z:=Y prog w
     wp_walk using z
     exact(_,Á,À h)
   .cases hz
  case fin=>
   rintro⟨b1,b2⟩ s' ⟨J,rfl,hz⟩;simp only at J;subst J;rcases hz with hz|⟨hz,j⟩|⟨hz,j,he⟩
   .cases hz
   .cases hz
   .rw[af j,W he] at h
    wp_walk
    exact(_,Á,by simpa [Builtin.Tuple.tupleCompareSizes] using h)
  case h=>
   exact(Á,Á,.inl Á)
end
end HT
namespace L2
open PySem PySem.Spec PyProof.Rows
inductive Tp(K:FR)(x:V)(y:V)(H:Hp)(Q:VK):Prop
 |mk (p q la lb:Addr) (a c:Int) (ns ms:LI) (_:x=.ref p) (_:y=.ref q) (_:ŭ p [.int a,.ref la]) (_:ŭ q [.int c,.ref lb]) (_:ã la Ŀ) (_:ã lb Än) (_:Q (.bl (if a=c then HT.lexLt ns ms else decide (a<c))) H)
theorem afg:∀ns:LI,HT.lexLt ns ns=false:=by
 intro ns;induction ns with
 |nil=>exact Á
 |cons x ns j=>
  rw[HT.uU,af rfl];exact j
theorem Tq{ns:LI}:∀{U:LV},a9 Ŀ U->IntsAre U ns:=by
 induction ns with
 |nil=>
  intro _ r;cases r;exact .nil
 |cons n ns j=>
  intro _ r;cases r with
  |cons h t=>
   let(tk,rfl):=h;exact .cons n tk (j t)
def afh(hu:X.A.units+128<cLine):eU X Çs (Tp X.K):=by
 intro pins s σ H x y v u Q I rx ry ⟨p,q,la,lb,a,c,ns,ms,e1,e2,hp,hq,h1,h2,k⟩;subst e1 e2;cases rx;cases ry;let(aj,rv,(o,ho,hc,n,hd),_):=I.tuple hp;let(nU,zT,(o2,Z,iV,n2,fY),_):=I.tuple hq;let(u1,u2,ei,r1,r2):=vals2 rv;let(w1,w2,m,r3,r4):=vals2 zT;subst ei m;let(t,rfl):=r1;let(t2,rfl):=r3;cases r2;cases r4;let(z,O,(p1,m1,g1,c1,d1,f1),_):=I.list h1;let(J,U,(p2,m2,g2,c2,d2,f2),_):=I.list h2;let i1:=Tq O;let i2:=Tq U;let(cls,zt,data,sl):=o;let(Rr,j,data2,nR):=o2;let(asD,asE,data3,W):=p1;let(asF,asG,asH,Y):=p2;simp only at hc hd iV fY c1 d1 f1 c2 d2 f2;subst hc hd iV fY c1 d1 f1 c2 d2 f2;let(as,ra):=Dp.reads I (.list (ns.M PyData.int)) Åb Åb (.lst h1 (rM ns)) rfl;let(bs,rb):=Dp.reads I (.list Äo) Åa Åa (.lst h2 (rM ms)) rfl;let Ie:SeqAt.EqAt X.A.in1 s Åb Åa (PyData.eqvAll (ns.M PyData.int) Äo):=by
  apply SeqAt.eqAt_reads _ (.list Äo) X.A.in1 s Åb Åa as bs ra rb (Qn (shaped_ints ns)) (Qn (shaped_ints ms)) ?_;let:=SeqAt.depth_of_shaped (shaped_ints ns);grind
 rw[ye] at Ie;let br:∀(prog:Pg)(w:Wd)(E:VP)(Q:VP),Q (.bool Ϥ) s->wpAny Ë X.A.in1 (richCompare .Lt Åb Åa) Q E s:=λprog w E Q h=>
  Qb (op:=.Lt) ⟨_,g1,rfl⟩ ⟨_,g2,rfl⟩ PySem.F.slot_list_lt PySem.F.entry_list_lt (PySem.F.args_list_lt_2 _ _) (HT.afe la lb z.toArray J.toArray m1 m2 none none W Y ns ms (by simpa using i1) (by simpa using i2))
   ⟨g1,g2,show Value.bool Ϥ≠Value.notImplemented/\Q (.bool Ϥ) s from⟨(λx=>nomatch x),h⟩⟩ (by show X.A.units+1<cLine;lia)
 let J8:decide (ns=ms)=true->HT.lexLt ns ms=false:=λe=>by
  let:ns=ms:=sE e;rw[this];exact afg ms
 exact Qb (op:=.Lt) ⟨_,ho,Á⟩ ⟨_,Z,Á⟩ PySem.F.slot_tuple_lt PySem.F.entry_tuple_lt (PySem.F.args_tuple_lt_2 _ _) (HT.aff p q la lb n n2 zt j sl nR a c t t2 (decide (ns=ms)) Ϥ J8)
  ⟨ho,Z,Ie,br,(λx=>nomatch x),.bl _,H,I,rfl,k⟩ Ô
end L2
namespace L2
open PySem PySem.Spec PyProof.Rows
abbrev J9(fd:FD):Obj:={cls:=.type "function",data:=.func fd}
def z7(f:Addr)(fd:FD):HO:=.ext λh=>h.I f=Α (J9 fd)
def z8(c:Addr)(q:Str):HO:=.ext λh=>∃o vs t,h.I c=Α o/\o.data=.fields vs/\vs[1]? =Α (.str q t)
def Cp(K:FR)(c T:Addr):Prop:=∀h:Heap,K.In h->PySem.W.CodeHd h c T
def yj(mg:MG)(base:Heap):Prop:=∃bm O,mg "__builtins__"=Α (.ref bm)/\bm≠builtinsNs/\base.I bm=Α O/\O.cls=.type "module"/\O.dict=Α builtinsNs/\O.data=.plain
abbrev tw(q:Str)(args:Arguments)(j:Expr)(scope:Scope)(cl:eZ)(pm:Value)(c:Addr)(m:Value):FuncData:=PySem.W.kla_fn "<lambda>" q args j scope cl pm (.ref c) m
def afq(T:Addr)(q:Str)(args:Arguments)(j:Expr)(scope:Scope)(cl:eZ)(pm:Value):TE:=λσ H Q=>H T=Α (.gU #[])/\∀(f c:Addr)(m:Value)(J:Array Value),H f=Β->H c=Β->c≠f->
 Q Ć (upd (upd (ϣ (.gU J)) c (z8 c q)) f (z7 f (tw q args j scope cl pm c m)))
section
variable{X:Cx}
def afr(hK:Cp X.K c T)(F:yj X.mg X.base)(ly:X.env.code=.ref c)(hq:X.env.qual++"<lambda>"=q)(gB:closureFor scope X.env=pure cl)(hd:defaultsOf args X.env=([],[]):=by rfl):
  PE X (.Lambda args gZ scope pos) (afq T q args gZ scope cl ((X.mg "__name__").D .none)):=by
 show Ö;let(hT,h):=h;subst hq;let hTk:s.U T=Α (PySem.W.tabObj #[]):=I.ax T _ hT;let keep:=I.bs;let ns:∀{b:Addr}{m:MG},X.base.Ns b m->s.H.Ns b m:=λ{b m} ⟨o,es,ep,e,d,r⟩=>⟨o,es,ep,(keep _ _ e).1,d,r⟩;let(bm,ob,b1,b2,b3,b4,b5,b6):=F;let rP:bm≠T:=λz=>by
  symm
 let hgN:∃o es ep,X.base.I mainGlobals=Α o/\o.data=.dict es ep:=by
  let(o,es,ep,e,d,r):=I.ok.mod.glob;symm
 let hgT:mainGlobals≠T:=λz=>by
  grind
 let hbG:bm≠mainGlobals:=λz=>by
  symm
 apply PySem.W.kla_eval hd (PySem.W.kla_makeFunction gB I.ok.glob (ns I.ok.mod.glob) ly (hK _ I.fQ) hTk trivial Á hgT ⟨bm,ob,b1,b2,hbG,rP,(keep _ _ b3).1,b4,b5,b6⟩ λj J h' tk ext Y iV Ka Tr=>?_);let O:∀b o,b≠T->s.U b=Α o->(h'.push (J9 (tw (X.env.qual++"<lambda>") args gZ scope cl ((X.mg "__name__").D .none) j J))).I b=Α o:=λb o F e=>cf _ (ext b o F e);let hcf:=dX iV;let Z:∀b o,H b=Α o->b≠j/\b≠h'.O:=λb o e=>by
  let wC:b<s.Z:=by
   apply ZE λz=>?_;rw[I.ax.fresh z] at e;symm
  grind
 let Ts:=Z _ _ hT;let hcN:=I.ax.fresh Y;let hfN:=I.ax.fresh (gS Y (qU iV));apply(.ref h'.O,_,?_,Á,h h'.O j J (#[]++ #[rawInt pos.line,rawInt pos.col,.ref j]) hfN hcN hcf);let U:∀b o,H b=Α o->b≠T->(upd (upd (ϣ (.gU (#[]++ #[rawInt pos.line,rawInt pos.col,.ref j]))) j (z8 j (X.env.qual++"<lambda>"))) h'.O (z7 h'.O (tw (X.env.qual++"<lambda>") args gZ scope cl ((X.mg "__name__").D .none) j J))) b=Α o:=λb o e F=>by
  rw[ao (Z b o e).2,ao (Z b o e).1,ao F];exact e
 let atT:(upd (upd (ϣ (.gU (#[]++ #[rawInt pos.line,rawInt pos.col,.ref j]))) j (z8 j (X.env.qual++"<lambda>"))) h'.O (z7 h'.O (tw (X.env.qual++"<lambda>") args gZ scope cl ((X.mg "__name__").D .none) j J))) T=Α (.gU (#[]++ #[rawInt pos.line,rawInt pos.col,.ref j])):=by
  rw[ao Ts.2,ao Ts.1,aq]
 apply I.step (g':=s.gens) (d':=s.drawn) (t':=tk) (ch:=[]) (λ_ z=>nomatch z) (λb o _ _ _ e n=>O b o ì e) (λb o _ _ _ e n=>⟨o.slots,O b o ì e⟩) (λb o _ e n=>?_) (λb o _ e=>?_) (λb xs e=>U b _ e ì) (λb o u e=>U b _ e ì) (λb ps e=>?_) Æh (λb o e=>?_) I.bare
 .let wC:=cq e;rw[ao (dX (iD wC (gS Y (qU iV)))),ao (dX (iD wC Y)),ao ì];exact n
 .by_cases F:b=T
  .rw[F];exact(_,cf _ Tr)
  .symm
 .by_cases F:b=T
  .symm
  .symm
 .let(o,es,ep,e,d,r):=hm;exact(o,es,ep,O _ _ (λz=>by grind) e,d,r)
 .by_cases hf:b=h'.O
  .subst hf;rw[aq] at e;cases e;exact(eY _ Á,⟨_,eY _ Á⟩,λh1 h2 p k=>k _ p)
  .rw[ao hf] at e;by_cases hc:b=j
   .subst hc;rw[aq] at e;cases e;let(c2,o,vs,t,ec,e1,e2,e3):=Ka;cases ec;let Tv:=cf (J9 (tw (X.env.qual++"<lambda>") args gZ scope cl ((X.mg "__name__").D .none) b J)) e1;exact(⟨o,vs,t,Tv,e2,e3⟩,⟨_,Tv⟩,λh1 h2 ⟨o,vs,t,p1,p2,p3⟩ k=>⟨o,vs,t,k _ p1,p2,p3⟩)
   .rw[ao hc] at e;by_cases F:b=T
    .subst F;rw[aq] at e;cases e;exact cf _ Tr
    .rw[ao F] at e;apply(I.ax b o e).nH (λa u ha q=>O a u (λz=>?_) q) (λa q=>U a _ q ì) (λa xs q=>U a _ q ì);symm
def Ft(P:Pg)(w:Wd)(K:FR)(mg:MG)(base:Heap)(k:Nat)(q:Str)(fdOf:Addr->Value->FuncData)(ps:LS)(sp:Sp):Prop:=
 ∀(f c:Addr)(j:Value)(A:Around)(outer:List Env)(s:Sh)(H:Hp)(U:LV)(vs:ay)(Q:VK),dJ k A->Đ H->H f=Α (z7 f (fdOf c j))->H c=Α (z8 c q)->a9 vs U->vs.L=ps.L->sp vs H Q E0->
  codeAny Àr A (.call Ć ⟨U,[]⟩) (CR aF outer P w H s Q E0) s
def Cq(H:Hp)(f:Addr)(q:Str)(fdOf:Addr->Value->FuncData):Prop:=∃c j,H f=Α (z7 f (fdOf c j))/\H c=Α (z8 c q)
def afy(i:Nat)(q:Str)(fdOf:Addr->Value->FuncData)(ps:LS)(sp:Sp)(t:TA):TE:=λσ H Q=>∃f,σ[i]? =Α Âc/\Cq H f q fdOf/\t σ H λvs H1=>Cq H1 f q fdOf/\vs.L=ps.L/\sp vs H1 Q E0
variable{x:Str}{i:Nat}{p pos:Pos}{e:Expr}{es:List Expr}{t:TA}{k:Nat}{q:Str}{fdOf:Addr->Value->FuncData}{ps:LS}{sp:Sp}
def afz(L:Ft X.prog X.w X.K X.mg X.base k q fdOf ps sp)(hr:dJ k X.A)(hN:X.N[i]? =Α x)(hv:xM X.env.scope x)(ha:PA X (e::es) t)(hd:(x==("__debug__":Str))=false:=by decide)(ly:(x==("__classdict__":Str))=false:=by decide)(he:starEach (e::es) X.env=(false,eval e X.env)::starEach es X.env:=by rfl) (dg:(backTo pos ø).any (·.1)=false:=by rfl):PE X (.Call ϑ (e::es) [] pos) (afy i q fdOf ps sp t):=by
 show Ö;let(f,hf,(c,iO,l1,l2),h):=h;let lv:=QS (X:=X) (pos:=p) hN hv hd ly pins s σ H (λv H1=>v=.ref f/\H1=H) I ⟨_,hf,rfl,rfl⟩;apply xE (iU lv (λu s1 ⟨v,H1,O,rv,ev,eh⟩=>?_) λ_ _ z=>z);subst ev eh;cases rv;apply PySem.W.callWith_F ⟨_,_,_,_,(O.ax f _ l1).1⟩ (aL (ha pos pins s1 σ H1 _ O h) λus Y ⟨vs,J,m,r,⟨Z,F,U,m2⟩,hl,j⟩=>⟨⟨_,_,_,_,(m.ax f _ U).1⟩,?_⟩) he dg;apply zh (qR (L f Z F X.A X.stack Y J us vs Q hr m.zI U m2 r hl j) λr s' j=>?_);cases r with
 |error e=>exact tj pins σ J Y e s' m j
 |ok fl=>
  cases fl with
  |ret u=>exact m.after j
  |next=>exact False.elim j
  |brk=>exact False.elim j
  |cont=>exact False.elim j
end
def nY(c:Addr)(o:Obj):HO:=.ext λh=>h.I c=Α o
def del(H:Hp)(a:Addr):Hp:=λb=>if b=a then none else H b
def Fu{H:Hp}{a:Addr}:del H a a=Β:=af rfl
def wD{H:Hp}{a b:Addr}(h:b≠a):del H a b=H b:=ag h
def Cr{H:Hp}{a b:Addr}(h:H b=Β):del H a b=Β:=by
 by_cases e:b=a
 .rw[e,Fu]
 .rw[wD e,h]
def dY.del{P:Pg}{w:Wd}{H:Hp}{h:Heap}{c:Addr}{o:Obj}(x:Ħ h)(hc:H c=Α (nY c o)):dY P w (del H c) h:=λa u e=>by
 let j:a≠c:=λz=>by rw[z,Fu] at e;cases e
 rw[wD j] at e;apply(x a u e).nH Äb (λb q=>?_) (λb xs q=>?_)
 .rw[wD (λz=>by rw[z,hc] at q;cases q)];exact q
 .rw[wD (λz=>by rw[z,hc] at q;cases q)];exact q
def dY.put{P:Pg}{w:Wd}{H:Hp}{h:Heap}{c:Addr}{o:Obj}(x:Ħ h)(j:H c=Β)(hc:h.I c=Α o):dY P w (upd H c (nY c o)) h:=λa u e=>by
 by_cases m:a=c
 .subst m;rw[aq] at e;cases e;exact(hc,⟨_,hc⟩,λF h2 p k=>k _ p)
 .rw[ao m] at e;apply(x a u e).nH Äb (λb q=>?_) (λb xs q=>?_)
  .rw[ao (λz=>by rw[z,j] at q;cases q)];exact q
  .rw[ao (λz=>by rw[z,j] at q;cases q)];exact q
structure Kb(p x:Str)(sc:Scope):Prop where
 kind:sc.kind=.function
 co:sc.isCoroutine=false
 gen:sc.isGenerator=false
 loc:sc.names.Q p=Α .local
 fr:sc.names.Q x=Α .free
 Tw:∀y∈sc.names,y.2≠ .cell
 only:∀y∈sc.names,y.2=.free->y.1=x
abbrev Fv(q:Str)(scope:Scope)(L f:Addr)(cd:Value)(cl:eZ):Env:=newEnv scope L mainGlobals cl (q++".<locals>.") (some f) cd none builtinsNs
def Fw(P:Pg)(w:Wd)(K:FR)(mg:MG)(base:Heap)(N:LS)(cY:Str)(scope:Scope)(f:Addr)(cd:Value)(cl:eZ)(A:Around)(outer:List Env)(s:Sh)(H:Hp):Cx where
 prog:=P
 w:=w
 K:=K
 mg:=mg
 base:=base
 A:=A.deeper (ϰ cl)
 N:=N
 ib:=s
 rh:=H
 env:=ϰ cl
 outer:=outer
 stack:=ϰ cl::outer
 ex:=[]
 calm:=true
 fn:=λ_=>false
 pn:=[]
 xe:=λ_ _=>False
theorem Fx{x y:Str}{cx c:Addr}(h:List.lookup y [(x,cx)]=Α c):y=x/\c=cx:=by
 rw[vL] at h;cases e:y==x with
 |true=>rw[e] at h;exact(vK.mp e,(aO h).symm)
 |false=>rw[e] at h;cases h
section
variable{P:Pg}{w:Wd}{K:FR}{mg:MG}{base:Heap}{q p x:Str}{scope:Scope}{f cx:Addr}{cd:Value}{A:Around}{outer:List Env}{s:Sh}{H:Hp}{v1 v:V}{u1 u:Value}{o:Obj}{h':Heap}{tk:Nat}
def afB(S:Kb p x scope)(hd:A.handled=Β)(j:Đ H)(Z:RelV v1 u1)(J:s.U cx=Α o)(F:o.data=.cell Âr)(ru:RelV v u)(O:H cx=Β)(Y:h'.Ns s.Z (λy=>[(p,u1)].reverse.lookup y)) (hk:∀b o,s.U b=Α o->h'.I b=Α o):
  Inv (Fw P w K mg base [p,x] q scope f cd [(x,cx)] A outer s H) [] (start [p,x] [v1,v]) H {s with heap:=h',toks:=tk}:=by
 let U:∀b:Addr,b∉(Fw P w K mg base [p,x] q scope f cd [(x,cx)] A outer s H).ex:=λb z=>absurd (show b∈([]:LA) from z) Ä;apply⟨⟨j.mod,S.kind,Á,Á,bw _,λy z c m h2=>(Fx m).1.trans (Fx h2).1.symm,λy hy=>?_,λy c z _=>Bool.noConfusion z,λ_=>hd,Around.frames_deeper j.frames,.inr ⟨Á,Á⟩,λb z=>absurd z (U b),j.bs,j.nM,λb _ _=>U b,λb z=>absurd z (U b),j.lu,j.p7⟩,
  rfl,j.bare,Un.kept hk,⟨_,Y,λi y v' m h2 h3=>?_⟩,λy c h=>?_,j.ax.fresh (bw _),λy c h=>?_,λp W=>absurd (show p∈([]:bJ) from W) Ä,j.ax.kept hk,rfl⟩
 .let hy:scope.names.Q y=Α .cell\/scope.names.Q y=Α .free:=hy;rcases hy with hy|hy
  .exact absurd Á (S.Tw _ Âh)
  .apply(cx,?_);rw[show y=x from S.only _ Âh rfl];show List.lookup x [(x,cx)]=Α cx;simp
 .match i with
  |0=>
   cases m;cases h2;exact(u1,Z,.inl ⟨S.loc,by show List.lookup p [(p,u1)]=Α u1;simp⟩)
  |1=>
   cases m;cases h2;exact(u,ru,.inr ⟨.inr S.fr,cx,by show List.lookup x [(x,cx)]=Α cx;simp,o,hk _ _ J,F⟩)
  |i+2=>cases m
 .let(rfl,rfl):=Fx h;exact(_,o,hk _ _ J,F)
 .let(rfl,rfl):=Fx h;exact O
def oX.del(j:Đ H)(hc:H cx=Α Æa):Đ (del H cx):=
 ⟨j.frames,j.mod,λb o e=>⟨(j.bs b o e).1,Cr (j.bs b o e).2⟩,j.nM,j.lu,λb m=>Cr (j.p7 b m),j.ax.del hc,j.bare⟩
inductive Kc(cx:Addr)(v:V)(vG:Sp)(vs:ay)(H:Hp)(Q:VK)(E':XK):Prop
 |mk (o:Obj) (u:Value) (_:H cx=Α Æa) (_:o.data=.cell Âr) (_:RelV v u) (_:vs.L=1) (_:vG vs (del H cx) (λr H'=>H' cx=Β->Q r (upd H' cx Æa)) E')
def Un.put{fs:LA}{H H':Hp}{h h2:Heap}(un:Un fs [] (del H cx) H' h h2)(hc:H cx=Α Æa):Un fs [] H (upd H' cx Æa) h h2:=by
 let ne:∀{b:Addr},H b=Β->b≠cx:=λn z=>by rw[z,hc] at n;cases n
 apply(λb O q n m j=>un.keep b O q (Cr n) m j,λb O q n m j=>un.slot b O q (Cr n) m j,λb O q n j=>?_,un.there,λb xs q=>?_,λb O u q=>?_,λb ps q=>?_)
 .rw[ao (ne n)];exact un.free b O q (Cr n) j
 .let z:b≠cx:=λz=>by rw[z,hc] at q;cases q
  rw[ao z];exact un.pY b xs (by rw[wD z];exact q)
 .let z:b≠cx:=λz=>by rw[z,hc] at q;cases q
  rw[ao z];exact un.nI b O u (by rw[wD z];exact q)
 .let z:b≠cx:=λz=>by rw[z,hc] at q;cases q
  rw[ao z];exact un.pZ b ps (by rw[wD z];exact q)
def afC{k:Nat}{args:Arguments}{F:Expr}{pm:Value}{vG:Sp}(S:Kb p x scope)(Kd:∀(c:Addr)(Z u:Value),bindArgs (tw q args F scope [(x,cx)] pm c Z) ⟨[u],[]⟩=pure [(p,u)])(uT:∀(f c:Addr)(A:Around)(outer:List Env)(s:Sh)(H:Hp)(y:V)(Q:VK),dJ k (A.deeper (Fv q scope s.Z f (.ref c) [(x,cx)]))->vG [y] H Q E0->
   ∃t,PE (Fw P w K mg base [p,x] q scope f (.ref c) [(x,cx)] A outer s H) F t/\t (start [p,x] [y,v]) H Q):Ft P w K mg base (k+1) q (tw q args F scope [(x,cx)] pm) [p] (Kc cx v vG):=by
 intro f c Z A outer s H us vs Q hr j hf hc r U i9;let(o,u,m,ho,ru,_,ht):=i9;let O:s.U cx=Α o:=(j.ax cx _ m).1;let KX:=j.mod.sM.keeps λb o e=>(j.bs b o e).1;let DY:=j.mod.nolimit.keeps λb o e=>(j.bs b o e).1;let(o',wz,t',c1,c2,c3):=(j.ax c _ hc).1;apply PySem.W.kla_callFunE hr.depth (j.ax f _ hf).1 Á S.co S.gen Á ⟨c,o',wz,t',Á,c1,c2,c3⟩ ?_;cases r with
 |nil=>cases U
 |cons r1 r2=>
 cases r2 with
 |cons _ _=>cases U
 |nil=>
 rw[Kd];apply aP ?_;apply wpAny_newFunctionEnv S.Tw Ϫ (λh' oQ tF=>?_) S.kind
 .rw[lg.mp hy];exact S.loc
 let hk:∀b o,s.U b=Α o->h'.I b=Α o:=λb o e=>by
  rw[tF.2 b Åe];exact cf _ e
 apply(DY.keeps hk,PySem.W.kla_codeExpr ?_);let(t,hp,hq):=uT f c A outer s (del H cx) _ _ (hr.deeper _) ht;let I:=afB (q:=q) (f:=f) (cd:=.ref c) (tk:=s.toks+1) S hr.hd (j.del m) r1 O ho ru Fu oQ hk;apply iU (hp [] _ _ _ _ I hq) (λv' s' h=>?_) λ_ _ z=>False.elim z;let(y,H',J,rv,qq):=h;let ig:s'.U cx=Α o:=J.base.keep cx o O Fu (λz=>by let:=j.p7 cx z;rw[m] at this;cases this) (by simp[Fw]);let Y:=J.j4 x cx (by show List.lookup x [(x,cx)]=Α cx;simp);exact(y,upd H' cx Æa,J.os,J.bare,Un.put J.base m,J.ax.put Y ig,rv,qq Y)
end
section
def Un.tail{X:Cx}{pins:bJ}{σ:St}{H1 J:Hp}{U:Sh}{h2:Heap}{c:Addr}{o:Obj}(I:Ã H1 U)(hex:X.ex=[])(hc:X.ib.Z<=c)(W:H1 c=Β)(un:Un (nJ X.stack) [] Äf J U.H h2):Un X.fs [] X.rh J X.ib.H h2:=by
 let nx:∀b:Addr,b∉X.ex:=λb=>by rw[hex];simp
 let ne:∀{b:Addr}{O:Obj},X.ib.U b=Α O->b≠c:=λe=>dX (iD (cq e) hc);let fr:∀{b:Addr}{O:Obj},X.ib.U b=Α O->X.rh b=Β->upd H1 c (nY c o) b=Β:=λe n=>by
  rw[ao (ne e)];exact I.base.free _ _ e n (nx _)
 let F:∀{b:Addr}{u:HO},H1 b=Α u->b≠c:=λe z=>by rw[z,W] at e;cases e
 apply(λb O q n j _=>?_,λb O q n j _=>?_,λb O q n _=>?_,λb O q _=>?_,λb xs q=>?_,λb O u q=>?_,λb ps q=>?_)
 .apply un.keep b O (I.base.keep b O q n j (nx b)) (fr q n) (λz=>?_) Ä;rcases aV.mp (I.BB b z) with z|z
  .let:=cq q;rw[z] at this;exact absurd (iD this I.ok.above) (qT _)
  .exact j z
 .let(sl,e):=I.base.slot b O q n j (nx b);let(s2,m):=un.any e (fr q n) Ä;exact(s2,m)
 .let(sl,e):=I.base.any q n (nx b);exact un.free b _ e (fr q n) Ä
 .let(o',e):=I.base.there b O q (nx b);exact un.there b o' e Ä
 .let e:=I.base.pY b xs q;exact un.pY b xs (by rw[ao (F e)];exact e)
 .let e:=I.base.nI b O u q;exact un.nI b O u (by rw[ao (F e)];exact e)
 .let(Y,e):=I.base.pZ b ps q;let(Z,m):=un.pZ b _ (by rw[ao (F e)];exact e);exact(Y++Z,by rw[m,Array.append_assoc])
def PX(X:Cx)(e:Expr)(t:TE):Prop:=
 ∀(pins:bJ)(s:Sh)(σ:St)(H:Hp)(Q:VK),Ã H s->t σ H Q->wpAny É X.A ϛ (CE X.outer X.prog X.w X.rh X.ib Q) X.xe s
def afD(c:Addr)(i:Nat)(sp:Sp)(t:TA):TE:=λσ H Q=>∃v,σ[i]? =Α Ãq/\t σ H λvs H1=>∀(o:Obj)(u:Value),o.data=.cell Âr->RelV v u->H1 c=Β->sp vs Äf Q E0
variable{X:Cx}{g x:Str}{c f:Addr}{fd:FD}{k i:Nat}{ps:LS}{sp:Sp}{p pos:Pos}{e:Expr}{es:List Expr}{t:TA}
def afE(F:ü aF k f fd ps sp)(hr:dJ k X.A)(hg:Gl X g)(hm:X.mg g=Α Ć)(hk:PySem.W.keepIn X.K Ć=true)(J:ņ [])(hN:X.N[i]? =Α x)(hx:X.env.scope.names.Q x=Α .cell)(hc:X.env.cells.Q x=Α c)(hf:X.fn x=true)(hex:X.ex=[])(ha:PA X (e::es) t) (i8:(g==("__debug__":Str))=false:=by decide) (he:starEach (e::es) X.env=(false,eval e X.env)::starEach es X.env:=by rfl) (dg:(backTo pos ø).any (·.1)=false:=by rfl):
  PX X (.Call Èh (e::es) [] pos) (afD c i sp t):=by
 show Ö;let(v,hv,h):=h;apply xE (vT I hg hm ?_ i8);apply PySem.W.callWith_K (h₀:=X.base) I.ok.mod.sM hk (aL (ha pos pins s σ H _ I h) λY U h1=>?_) he dg;let(vs,H1,I1,r,q):=h1;refine Áx;let(m,_,lo):=I1.loc;let(u,ru,lk):=lo i x v hN hv (.inr (.inl hx));obtain⟨o,ho,hd⟩:U.H.IsCell c Âr:=by
  rcases lk with ⟨z,_⟩|⟨_,c',e,zx⟩
  .let z:X.env.scope.names.Q x=Α .local:=z;rw[hx] at z;cases z
  .rw[hc] at e;cases e;exact zx
 let hn:=I1.j4 x c hc;let q:=q o u hd ru hn;let Z:=I1.ok.xN x c hf hc;let j:=I1.zI;let e1:oX X.prog X.w X.K X.mg X.base X.A X.stack U Äf:=⟨j.frames,j.mod,λb ob e=>⟨(j.bs b ob e).1,by
   rw[ao (dX (iD (cq (I1.ok.bs b ob e).1) Z))];exact(j.bs b ob e).2⟩,j.nM,j.lu,λb J=>by
   let nb:b≠c:=by
    rcases aV.mp (I1.BB b J) with z|z
    .rw[z];exact(I1.vQ x c hc).symm
    .let(_,o',h',_):=I1.ok.lu.mem z;exact dX (iD (cq h') Z)
   rw[ao nb];exact j.p7 b J,j.ax.put hn ho,j.bare⟩
 let hl:(Y++[]).L=ps.L:=by rw[jG,<-r.L];exact F.len _ _ _ _ q
 let J:=J U Y I1.fQ hl;rw[jG] at J;apply zh (qR (F.run X.A X.stack U _ ⟨Y,[]⟩ Y vs _ E0 hr e1 J r q) λr s' O=>?_);cases r with
 |error e=>exact False.elim O
 |ok fl=>
  cases fl with
  |ret u'=>
   let(y,H2,os,bare,un,ax,ry,qq):=O;exact(y,H2,os.R I1.os,bare,Un.tail I1 hex Z hn un,ax,ry,qq)
  |next=>exact False.elim O
  |brk=>exact False.elim O
  |cont=>exact False.elim O
def bx.okt{P:Pg}{w:Wd}{K:FR}{mg:MG}{base:Heap}{x cY:Str}{st:Stmt}{f:Addr}{fd:FD}{N ps:LS}{k:Nat}{sp:Sp}{e:Expr}{pos:Pos}(F:bx K x cY st f fd)(S:bQ N ps Ák)(hb:i6 st=[.Return (some e) pos])(uT:∀(aI:Value)(A:Around)(outer:List Env)(s:Sh)(H:Hp)(vs:ay)(Q:VK)(E:XK),fd.code=aI->dJ k Ł->sp vs H Q E->
   ∃t,PX (ϗ N cY Ák f aI A outer s H E).vW e t/\t Ż H Q) (len:∀vs H Q E,sp vs H Q E->vs.L=ps.L:=by intro _ _ _ _ h;cases h;subst_vars;rfl):Ì aF (k+1) f fd ps sp:=by
 let(oc,od,kV,i3,pm,an,aI,ct,nG,rfl,lk,ly):=F.ex;apply(len,λA outer s H args us vs Q E hr j ja r J=>?_);let hl:=len _ _ _ _ J;let m:K.In s.H:=j.mod.sM.keeps λb o e=>(j.bs b o e).1;let U:s.H.NoLimit:=j.mod.nolimit.keeps λb o e=>(j.bs b o e).1;let Y:∀y∈ps.zip us,(aY st).names.lookup y.1=Α .local\/((aY st).names.lookup y.1=Α .cell/\((cellsFrom Î (aY st).names []).Q y.1).isSome=true):=λ⟨n,v⟩ hy=>by
  rcases S.par n (D7 hy).1 with q|q
  .exact .inl q
  .exact .inr ⟨q,PySem.W.cellsFrom_some _ _ _ (.inl q)⟩
 apply codeAny_call_function hr.depth (m _ _ lk) Á S.co S.gen Á (PySem.W.codeRec_of m ly) (ja _ _ _ _ ?_);apply arz S.kind Y λenv he O x=>?_;subst he;apply(U.keeps x.toInCall.keep,codeAny_func ?_);let(t,hp,hq):=uT aI A outer s H vs Q E rfl (hr.deeper _) J;let I:Inv (ϗ N cY Ák f aI A outer s H E) [] Ż H O:=Rk S hr.hd j hl r x;let Z:=hp [] O Ż H Q (I.iL _) hq;show wpAny _ _ (execs Ån _) _ _ _;rw[hb];exact P7 (wpAny_Return_some (iU Z (λv s' hs=>hs) λ_ _ z=>False.elim z))
end
end L2
namespace XS
open PySem
def qp(t:SetTable):Prop:=t.place.toList.Pairwise (· < ·)
def Cv{xs:Array Nat}(h:xs.toList.Pairwise (· < ·)){i j x y:Nat}(hi:xs[i]? =Α x)(m:xs[j]? =Α y)(l:i<j):x<y:=by
 rw[List.pairwise_iff_getElem] at h;let(a,rfl):=uE.mp hi;let(b,rfl):=uE.mp m;let:=h i j (À a) (À b) l;simpa using this
def afG{xs:Array Nat}(h:xs.toList.Pairwise (· < ·))(j:Nat):∀(f lo hi:Nat),hi-lo<=f->hi<=xs.u->lo<=hi->
  (∀i x,xs[i]? =Α x->i<lo->x<j)->(∀i x,xs[i]? =Α x->hi<=i->j<=x)->∀i x,xs[i]? =Α x->(x<j↔i<SetTable.below.go xs j f lo hi):=by
 intro f;induction f with
 |zero=>
  intro lo hi Y h2 Z F J i x e;let:lo=hi:=by omega
  subst this;ext SetTable.below.go;constructor
  .intro q;rcases Bl i lo with r|r
   .exact r
   .let:=J i x e r;omega
  .exact F i x e
 |succ f U=>
  intro lo hi Y h2 Z F J i x e;ext SetTable.below.go;by_cases q:lo<hi
  .rw[af q];dsimp only;let O:(lo+hi)/2<xs.u:=by omega
   let z:xs[(lo+hi)/2]? =Α xs[(lo+hi)/2]:=by simp[O]
   let W:xs.D ((lo+hi)/2) j=xs[(lo+hi)/2]:=by simp[Array.getD,O]
   rw[W];split
   .rename_i c;apply U _ _ á h2 á (λk y m hk=>?_) J i x e;rcases Bl k ((lo+hi)/2) with r|r
    .exact Bk (Cv h m z r) c
    .let:k=(lo+hi)/2:=by omega
     subst this;rw[z] at m;cases m;exact c
   .rename_i c;apply U _ _ á á á F (λk y m hk=>?_) i x e;rcases Bl ((lo+hi)/2) k with r|r
    .let:=Cv h z m r;omega
    .let:k=(lo+hi)/2:=by omega
     subst this;rw[z] at m;cases m;omega
  .rw[ag q];let:lo=hi:=by omega
   subst this;constructor
   .intro q;rcases Bl i lo with r|r
    .exact r
    .let:=J i x e r;omega
   .exact F i x e
def z9{xs:Array Nat}(h:xs.toList.Pairwise (· < ·)){j i x:Nat}(e:xs[i]? =Α x):x<j↔i<SetTable.below xs j:=
 afG h j xs.u 0 xs.u á á á (λ_ _ _ h=>absurd h á) (λi x e h=>absurd (uE.mp e).1 á) i x e
def afH{t:SetTable}(h:qp t){j:Nat}(hs:∀i,t.slot j≠ .live i):j∉t.place.toList:=by
 intro F;let(i,hi):=Qr F;rw[zk] at hi;let a:¬i<SetTable.below t.place j:=λq=>absurd ((z9 h hi).mpr q) á;let b:¬SetTable.below t.place j<i:=λq=>by
  let z:SetTable.below t.place j<t.place.u:=Bk q (uE.mp hi).1;let m:t.place[SetTable.below t.place j]? =Α t.place[SetTable.below t.place j]:=by simp[z]
  let:=Cv h m hi q;let:=(z9 h m).mp this;omega
 let e:i=SetTable.below t.place j:=by omega
 apply hs ĭ ?_;ext SetTable.slot;rw[<-e];simp[hi]
def afI{t:SetTable}(h:qp t){j:Nat}(J:j∉t.place.toList):(SetTable.insertAt t.place ĭ j).toList.Pairwise (· < ·):=by
 rw[SetTable.toList_insertAt];let z:(t.place.toList.take ĭ++t.place.toList.drop ĭ).Pairwise (· < ·):=by rw[Iw];exact h
 rw[List.pairwise_append] at z⊢;let U:∀a∈t.place.toList.take ĭ,a<j:=by
  intro a m;let(i,hi):=Qr m;rw[List.getElem?_take] at hi;split at hi
  .rw[zk] at hi;exact(z9 h hi).mpr (by assumption)
  .cases hi
 let hd:∀a∈t.place.toList.drop ĭ,j<a:=by
  intro a m;let O:=Qs m;let(i,hi):=Qr m;rw[Qp,zk] at hi;let:=mt (z9 h (j:=j) hi).mp á;let:a≠j:=λe=>J (e▸ O);omega
 apply(z.1,Bm.mpr ⟨hd,z.2.1⟩,λa m b F=>?_);rcases aV.mp F with rfl|F
 .exact U a m
 .exact z.2.2 a m b F
def afJ{t:SetTable}{f:Nat->Int}{h:Int}:∀(n:Nat)(p:SetTable.Probe)(j:Nat)(d:Option Nat),(∀x,p.dummy=Α x->∀i,t.slot x≠ .live i)->
  SetTable.probe.go t f h n p=Α (.empty j d)->(∀i,t.slot j≠ .live i)/\∀x,d=Α x->∀i,t.slot x≠ .live i:=by
 intro n;induction n with
 |zero=>intro p j d _ e;cases e
 |succ n z=>
  intro p j d hd e;delta SetTable.probe.go at e;let m:∀q:SetTable.Probe,(t.advance q).dummy=q.dummy:=λq=>by ext SetTable.advance;split <;> rfl
  split at e
  .rename_i hs;cases e;exact(λi=>by (rw[hs];intro q;cases q),hd)
  .rename_i hs;apply z _ j d (λx hx i=>?_) e;rw[m] at hx;cases hx;rw[hs];intro q;cases q
  .split at e
   .cases e
   .refine z _ j d Às e;rw[m] at hx;exact hd x hx
def Fy(n:Nat):(Array.range n).toList.Pairwise (· < ·):=by rw[Array.toList_range];exact Qt
def afK{t:SetTable}{n:Nat}(h:qp t):qp (t.orStandIn n)/\(t.orStandIn n).led=t.led:=by
 ext SetTable.orStandIn;split
 .exact(h,Á)
 .exact(Fy n,Á)
def afL{t:SetTable}(h:qp t)(es:Array (Int×Value))(k:Int)(x:Value):qp (layNew t es k x).2.1/\(layNew t es k x).2.1.led=t.led:=by
 ext layNew;split
 .rename_i slot W e;dsimp only;let F:∀i,t.slot slot≠ .live i:=by
   delta SetTable.freeSlot at e;split at e
   .rename_i j d z;let(a,b):=afJ _ _ j d (λx m=>by delta SetTable.probeStart at m;cases m) z;cases d with
    |none=>cases e;exact a
    |some d=>cases e;exact b d Á
   .cases e
  let hr:qp (t.put slot).1:=afI h (afH h F);exact afK hr
 .exact(Fy _,Á)
def afM(t:SetTable)(es:Array (Int×Value))(n:Nat):qp (relayAll t es n).2.1/\(relayAll t es n).2.1.led=t.led:=by
 ext relayAll;split
 .rename_i t' o e;dsimp only;split
  .delta SetTable.relaid SetTable.laid at e;cases m:SetTable.layClean (SetTable.sizeAbove n-1) (es.M (·.1)) with
   |none=>rw[m] at e;cases e
   |some O=>
    rw[m] at e;cases e;apply(?_,Á);show(List.toArray _).toList.Pairwise _;rw[List.map_filterMap];simp only[Option.map_map];let:∀l:LN,l.Pairwise (· < ·)->(l.filterMap λj=>(O.D j none).M ((λp:Nat×Nat=>p.1)∘ λq=>(j,q))).Pairwise (· < ·):=by
     intro l m;apply List.Pairwise.filterMap _ (λa b r x z y F=>?_) m;cases ha:O.D a none <;> rw[ha] at z <;> cases z;cases hb:O.D b none <;> rw[hb] at F <;> cases F;exact r
    exact this _ Qt
  .exact(Fy _,Á)
 .exact(Fy _,Á)
end XS
namespace XS
open PySem PyProof.Rows
def iw(prog:Pg)(w:Wd)(b:Bool)(h:Heap)(a:Addr)(S:Int->Bool)(n:Nat):Prop:=
 ∃o es ep t,h.I a=Α o/\o.ExactSet/\o.data=.set es ep t/\ElemsOf Àu es.toList/\(∀k,S k=true↔ ∃e∈es.toList,(intKind prog w).is k e.2=true)
  /\es.u<scanBound/\t.fits es.u=true/\es.u=n/\qp t/\t.led=b
section
variable{prog:Pg}{w:Wd}{A:Around}{E:VP}{s:Sh}{a:Addr}{b:Bool}{S:Int->Bool}{n:Nat}
def iw.of(h:ĩ b s.H a S n):s.H.SetOf Àu a S n:=let ⟨o,es,ep,t,h1,h2,h3,h4,h5,h6,h7,h8,_⟩:=h;⟨o,es,ep,t,h1,h2,h3,h4,h5,h6,h7,h8⟩
def iw.at{h h':Heap}(q:ĩ b h a S n)(k:∀o,h.I a=Α o->h'.I a=Α o):ĩ b h' a S n:=let ⟨o,es,ep,t,h1,r⟩:=q;⟨o,es,ep,t,k o h1,r⟩
def iw.congr{h:Heap}{j:Int->Bool}{m:Nat}(q:ĩ b h a S n)(e:∀k,S k=j k)(en:n=m):ĩ b h a j m:=by
 cases (funext e:S=j);cases en;exact q
def TF{h:Heap}{o:Obj}{es:Array (Int×Value)}{ep:Nat}{t:SetTable}(W:h.I a=Α o)(hex:o.ExactSet)(hd:o.data=.set es ep t){j:Array (Int×Value)} {t':SetTable} (O:ElemsOf Àu j.toList) (J:∀k,S k=true↔ ∃e∈j.toList,(intKind prog w).is k e.2=true) (m:j.u<scanBound) (z:t'.fits j.u=true) (hr:qp t') (U:t'.led=b):
  (h.update a (Obj.putSet j t')).I a=Α {o with data:=.set j (ep+1) t'}/\ĩ b (h.update a (Obj.putSet j t')) a S j.u:=by
 let F:=(SetOf_store (knd:=intKind prog w) W hex hd O J m z).1;exact(F,_,j,ep+1,t',F,hex,Á,O,J,m,z,Á,hr,U)
def TJ{g:Bool->Sem Unit}(hg:∀(c:Bool)(s₁:Sh)(U:Unit->Shared->Prop),U () s₁->wpAny Ë A (g c) U E s₁){o:Obj} {es:Array (Int×Value)} {ep:Nat} {t:SetTable} (ho:s.U a=Α o) (hex:o.ExactSet) (hd:o.data=.set es ep t){ft:Array (Int×Value)} {t2:SetTable} (lH:ElemsOf Àu ft.toList) (hm:∀k,S k=true↔ ∃e∈ft.toList,(intKind prog w).is k e.2=true)(z:ft.u<scanBound) (hf:t2.fits ft.u=true) (hr:qp t2) (Y:t2.led=b) {wd:Bool} {R:Option Bool->Shared->Prop}(h:∀h',Heap.SameBut a s.H h'->ĩ b h' a S ft.u->R (some true) {s with heap:=h'}):
  wpAny Ë A (do
    storeSet a ft t2
    if (!wd&&t2.tooFull)=true then do
      g (relayAll t2 ft Ģ).2.2
      storeSet a (relayAll t2 ft Ģ).1 (relayAll t2 ft Ģ).2.1
      pure (some true)
     else pure (some true)) R E s:=by
 apply au (wpAny_storeSet_of ho hd ?_ (ZF z));let(W,B3):=TF (prog:=prog) (w:=w) ho hex hd lH hm z hf hr Y;let wt:=vJ s.H a (Obj.putSet ft t2);split
 .let j:=relayAll_perm t2 ft Ģ;let J:=relayAll_fits t2 ft Ģ;let m:=afM t2 ft Ģ;generalize relayAll t2 ft Ģ=Z at j J m⊢;let(O,t3,gv):=Z;dsimp only at j J m⊢;let hz:O.u=ft.u:=by rw[<-ml,j.length_eq,ml]
  let yk:O.u<scanBound:=by rw[hz];exact z
  apply au (hg _ _ _ ?_);apply au (wpAny_storeSet_of W Á ?_ (ZF yk));let h2:=(TF (prog:=prog) (w:=w) (S:=S) (b:=b) W hex rfl (lH.perm j) (λk=>(hm k).R ⟨λ⟨e,F,q⟩=>⟨e,j.mem_iff.mpr F,q⟩,λ⟨e,F,q⟩=>⟨e,j.mem_iff.mp F,q⟩⟩) yk J m.1 (m.2.R Y)).2;rw[hz] at h2;exact aP (h _ (wt.R (vJ _ a _)) h2)
 .exact aP (h _ wt B3)
def afN{k:Int}{x:Value}{Q:Bool->Shared->Prop}(hk:(intKind prog w).is k x=true)(hx:x.scannable=true)(hS:ĩ b s.H a S n)(Aa:n+1<scanBound)(h:∀h',Heap.SameBut a s.H h'->ĩ b h' a (λz=>S z||decide (z=k)) (if S k then n else n+1)->Q (!S k) {s with heap:=h'}):
  wpAny Ë A (setAddHashed a x ((intKind prog w).hash k)) Q E s:=by
 let(o,es,ep,t,ho,hex,hd,Y,U,hb,hf,hn,hr,hl):=hS;ext setAddHashed setAddHashedIn;refine zg Ãi;dsimp only;rw[byScan_of hx hb Y];simp only[↓reduceIte];ext setAddByScan;apply au (au (zi ?_));apply au (wpAny_setScan_of hk ho hd hf Y ?_);cases e1:List.findIdx? (λe=>(intKind prog w).is k e.2) es.toList with
 |some j=>
  dsimp only;let(hj,hpj,_):=Iy.mp e1;let F:S k=true:=(U k).mpr ⟨es.toList[j],Ei hj,hpj⟩;apply aP (aP ?_);let:=h s.H (Heap.SameBut.refl a s.H) ⟨o,es,ep,t,ho,hex,hd,Y,λz=>by
   rw[Zz,nD,<-U z];exact(λq=>q.elim id (λe=>e▸ F),.inl),hb,hf,by rw[F];exact hn,hr,hl⟩
  rw[F] at this;cases s;exact this
 |none=>
  dsimp only;let F:S k=false:=by
   cases c:S k with
   |false=>rfl
   |true=>
    let(e,he,hp):=(U k).mp c;let:=arU.mp e1 e he;rw[hp] at this;cases this
  let W:=layNew_perm t es ((intKind prog w).hash k) x;let J:=layNew_fits t es ((intKind prog w).hash k) x;let m:=afL hr es ((intKind prog w).hash k) x;generalize layNew t es ((intKind prog w).hash k) x=L at W J m⊢;let(ft,t1,wd,gv):=L;dsimp only at W J m⊢;rw[Array.toList_push] at W;let hz:ft.u=n+1:=by rw[<-ml,W.length_eq,mq,ml,hn];rfl
  let Fz:ft.u<scanBound:=by rw[hz];exact Aa
  let E6:∀h',Heap.SameBut a s.H h'->ĩ b h' a (λz=>S z||decide (z=k)) ft.u->Q true {s with heap:=h'}:=by
   intro h' tF q;let:=h h' tF;rw[F] at this;rw[hz] at q;exact this q
  apply au ?_;let hgw:∀(c:Bool)(Z:Sh)(O:Unit->Shared->Prop),O () Z->wpAny Ë A (match c with|true=>rule "set.scan.the-table-gave-way"|false=>pure ()) O E Z:=
   λc Z O q=>by cases c <;> first|exact aP q|exact zi q
  apply hgw gv s _ ?_;split
  .apply au ?_;rw[hashByValue_scannable 8 hx];apply aP ?_;apply TJ (b:=b) (λc Z O q=>by cases c <;> first|exact aP q|exact zi q) ho hex hd ((Y.push hk hx).perm W) (mem_push_iff hk U W) Fz ?_ ?_ ?_ ?_
   .split
    .exact J
    .exact SetTable.fits_plain_off J
   .split
    .exact m.1
    .exact m.1
   .split
    .exact m.2.R hl
    .exact m.2.R hl
   .intro h' tF q;dsimp only;exact aP (E6 h' tF q)
  .apply au (aP ?_);simp only[↓reduceIte];apply TJ (b:=b) (λc Z O q=>by cases c <;> first|exact aP q|exact zi q) ho hex hd ((Y.push hk hx).perm W) (mem_push_iff hk U W) Fz J m.1 (m.2.R hl) ?_;intro h' tF q;dsimp only;exact aP (E6 h' tF q)
end
section
variable{prog:Pg}{w:Wd}{A:Around}{R:Result->Shared->Prop}{I:Addr}{fp wr:LA}{G:Array GenState->Array GenState->Prop}{n:Nat}{P:Nat->Value->Prop}{St:Nat->Shared->Prop}{b:Bool}
def afQ(W:WalksS prog w A.in1 I fp wr G n P St)(S:Addr)(Z:S∉fp)(val:Nat->Int)(m:∀i v,P i v->∃t,v=.int (val i) t)(hb:n+1<scanBound):
  ∀(k i:Nat)(s:Sh),n-i=k->i<=n->St i s->ĩ b s.H S (λx=>(firstMet val i).any (· ==x)) (firstMet val i).L->
   (∀s',Moved (S::wr) G s s'->ĩ b s'.H S (λx=>(firstMet val n).any (· ==x)) (firstMet val n).L->R (.ok (.ret .none)) s')->
   codeAny Ë A (.builtin "set.update.loop" ⟨[.ref S,.ref I],[]⟩) R s:=by
 let TX:S∉wr:=λh=>Z (W.sub _ h);let sG:∀c∈wr,c∈S::wr:=λc hc=>aQ _ hc;intro k;induction k with
 |zero=>
  intro i s hk hi st U hR;cases (by omega:i=n);apply vM F.entry_set_update_loop ?_;rw[xG ZG _];show wpAny _ A.in1 (pyNext (.ref I) >>= _) _ _ s;apply au (W.done s _ _ st λs' j=>?_);exact aP (hR s' (j.mono sG) (U.at λo e=>j.H S o TX e))
 |succ k ih=>
  intro i s hk hi st U hR;let br:i<n:=by omega
  apply vM F.entry_set_update_loop ?_;rw[xG ZG _];show wpAny _ A.in1 (pyNext (.ref I) >>= _) _ _ s;apply au (W.item i s _ _ br st λv s' hP mx j=>?_);let(t,rfl):=m i v hP;let Cz:=U.at λo e=>j.H S o TX e;show wpAny _ A.in1 (holding [Value.int (val i) t] (setAdd S (.int (val i) t)) >>= _) _ _ s';apply au (zg ?_);ext setAdd;apply zg ?_;apply au ((intKind prog w).pyHash (k:=val i) (Qu _ _ _ _) ?_);let z:(firstMet val i).L+1<scanBound:=by let:=ZH val i;omega
  apply afN (s:={s' with toks:=s'.toks+1}) (Qu _ _ _ _) Á Cz z λh' tF Y=>?_;apply aP ⟨vN ZG _,ih (i+1) _ á br (W.frame _ s' _ _ mx (Bj _) λc hc o e=>?_)
   (Y.congr (λx=>by rw[firstMet_succ,step_any]) (by rw[firstMet_succ,step_length])) λxV J O=>?_⟩
  .rw[tF.2 c (λh:c=S=>Z (by rw[<-h];exact hc))];exact e
  .apply hR xV (Moved.trans W.gtrans ((j.mono sG).then_heap (Bj _) λc o hc e=>?_) J) O;rw[tF.2 c (λh:c=S=>hc (by rw[h];exact gn))];exact e
end
section
variable{prog:Pg}{w:Wd}{A:Around}{E:VP}{s:Sh}
def iy(w:Wd):Bool:=!w.params.followText "set-order"
def afW(a:Value){Q:VP}(h:Q î {s with heap:=s.o {cls:=.type "set",dict:=Β,data:=.set #[] 0 ϧ}}):
  codeAny Ë A (.call (.builtin "set.__new__") ⟨[.type "set",a],[]⟩) (wants Q E) s:=by
 apply Zh ?_;show wpAny _ A.in1 (do checkBuiltinCall "set.__new__" ⟨[.type "set",a],[]⟩;again (.builtin "set.__new__" ⟨[.type "set",a],[]⟩)) _ _ s;apply au (P4 (PySem.F.newCall_set_1 a) (aP ⟨vN PySem.F.plain_set_new _,vM PySem.F.entry_set_new ?_⟩));rw[xG PySem.F.plain_set_new _];delta Builtin.«set.__new__» Builtin.Frozenset.newClass;let m:=sub_set_self;let(j,g,d,tk,os):=s;dsimp only
 wp_walk
 apply ZJ (aP ?_);dsimp only;simp only[newObj];exact au (wpAny_alloc (aP (aP h)))
set_option maxHeartbeats 3200000 in
def afX{l:Addr}{items:Array Value}{ns:LI}{Q:VP}(hh:A.handled=Β) (hl:s.H.IsList l items) (hi:IntsAre items.toList ns) (m:items.u+1<scanBound)(h:∀(h':Heap)(tk:Nat),ĩ (iy w) h' s.Z (λx=>(firstMet ŉ items.u).any (· ==x)) (firstMet ŉ items.u).L->
   (∀b o,s.U b=Α o->h'.I b=Α o)->Q î {s with heap:=h',toks:=tk}):
  wpAny Ë A (call (.type "set") [.ref l]) Q E s:=by
 let(c,tl,asJ):=PySem.F.called_set.mro;let asK:=PySem.F.called_set.made;let sG:=PySem.F.called_set.sub;apply zh (Zh ?_);show wpAny _ _ (callAny (.type "set") _) _ _ _;apply aP ⟨Zf _ È,vM PySem.F.entry_type_call ?_⟩;rw[Around.under_plain (weight_type_call_type "set" [.ref l] []) rfl];let h1:=PySem.F.called_set.notType;let h2:=PySem.F.called_set.canCreate;let hct:=PySem.F.typeCall_set_1 Ãc
 repeat (any_goals (first|assumption|wp_step))
 generalize hO:({cls:=.type "set",dict:=Β,data:=.set #[] 0 ϧ}:Obj)=O;apply qR (afW Ãc (E:=E) (Q:=λobj s₁=>obj=.ref s.Z/\s₁={s with heap:=s.o O}) (by subst hO;exact(rfl,rfl))) λr s₁ hr=>?_;let j7:O.isFreed=false:=by subst hO;rfl
 let gB:O.cls=.type "set":=by subst hO;rfl
 cases r with
 |error e=>exact hr
 |ok fl=>
  cases fl with
  |ret obj=>
   let(rfl,rfl):=hr;let hS:(s.o O).I s.Z=Α O:=eY _ j7;let hT:Shared.TypeIs {s with heap:=s.o O} î "set":=⟨_,hS,gB⟩;let hli:=PySem.F.called_set.init.lookup;let hbi:=PySem.F.called_set.init.bind î
   repeat (any_goals (first|assumption|wp_step))
   refine qR (Zj (R:=wants (λr s₂=>r=.none/\∃h' tk,s₂={s with heap:=h',toks:=tk}/\
     iw prog w (iy w) h' s.Z (λx=>(firstMet ŉ items.u).any (· ==x)) (firstMet ŉ items.u).L/\
     (∀b o,s.U b=Α o->h'.I b=Α o)) E) PySem.F.called_set.init.plain PySem.F.entry_set_init (check_set_init_1 hT ?_)) λr₂ s₂ j=>?_
   .let(ol,TY,TZ,nl,jJ):=hl;let(asN,asO,asP,asQ):=ol;simp only at TZ jJ;subst TZ;subst jJ;subst hO;let U:=cf (o:={cls:=.type "set",dict:=Β,data:=.set #[] 0 ϧ}) TY;let asR:=PySem.F.sub_list_set;let asS:=PySem.F.sub_list_frozenset;let aU:(Value.type "list"==Value.type "dict")=false:=by decide
    let eQ:(s.o {cls:=.type "set",dict:=Β,data:=.set #[] 0 ϧ}).IsList l items:=⟨_,U,rfl,nl,rfl⟩;delta Builtin.«set.__init__» noKeywords Builtin.Frozenset.updateFrom;generalize hPI:pyIter=PI
    wp_walk
    subst hPI;apply P8 eQ ?_;apply au (wpAny_runValue ?_);let Z:l<s.Z:=cq TY;let Y:A.in1.in1.in1.handled=Β:=by simp[hh]
    let hz:(s.o {cls:=.type "set",dict:=Β,data:=.set #[] 0 ϧ}).O=s.Z+1:=by rw[mj]
    refine afQ (b:=iy w) ((Walks.list Y _ l (by rw[hz];exact dX (xF Z)) items).toS) s.Z
     (by rw[hz];simp only[aV,lj,lp,not_or];exact(dX (D5 _),qS Z)) ŉ (λi v hv=>IntsAre.int_at hi i v (by rw[zk];exact hv)) m (items.u-0) 0 _ á (du _)
     ⟨⟨_,eY _ rfl,rfl,rfl⟩,(eQ.push _)⟩ ?hS0 ?hR
    case hS0=>
     apply(_,#[],0,.fresh 0 0 (iy w),cf _ hS,⟨Á,Á,Á⟩,Á,λe he=>?_,λk=>?_,?_,Á,Á,?_,Á)
     .simp at he
     .simp[firstMet_zero]
     .decide
     .exact List.Pairwise.nil
    case hR=>
     intro s' z J;let(h',g',d',j0,Js):=s';cases (z.gens:g'=s.gens);cases (z.drawn:d'=s.drawn);cases (z.os:Js=s.os);apply aP ?_;show wpAny _ _ (ret Value.none) _ _ _;apply aP ⟨Á,h',j0,Á,J,λb o e=>?_⟩;let m:=cq e;exact z.H b o (by rw[hz];simp only[aV,lj,lp,not_or];exact(dX m,dX (xF m))) (cf _ (cf _ e))
   .cases r₂ with
    |error e=>exact j
    |ok W=>
     cases W with
     |ret r=>
      let(rfl,h',tk,rfl,J,je):=j
      repeat (any_goals (first|assumption|wp_step))
      exact h _ _ J je
     |_=>exact j.elim
  |_=>exact hr.elim
end
theorem T4{α:Type}:∀{l:List α}{i:Nat}(h:i<l.L),(l[i]::l.eraseIdx i).Perm l:=by
 intro l;induction l with
 |nil=>intro i h;cases h
 |cons x r j=>
  intro i h;cases i with
  |zero=>exact .refl _
  |succ i=>exact(List.Perm.swap _ _ _).R (List.Perm.cons _ (j (Nat.lt_of_succ_lt_succ h)))
theorem af1{α:Type}(f:Nat->Nat):∀(n k:Nat)(l:List α)(out:Array α),l.L=n->(pickOrder.go f n k l out).toList.Perm (out.toList++l):=by
 intro n;induction n with
 |zero=>intro k l out e;cases l with
  |nil=>delta pickOrder.go;simp
  |cons _ _=>cases e
 |succ n m=>
  intro k l out e;let j:f k%l.L<l.L:=ZK _ á;ext pickOrder.go;rw[c7 j];dsimp only;apply(m _ _ _ (by rw[arX j];omega)).R ?_;rw[Array.toList_push,qW];exact List.Perm.append_left _ (T4 j)
def Ke{α:Type}(f:Nat->Nat)(xs:Array α):(pickOrder f xs).toList.Perm xs.toList:=by
 let:=af1 f xs.u 0 xs.toList #[] Ä;simpa [pickOrder] using this
section
variable{M:Model}{A:Around}{E:VP}{s:Sh}
def af2{j:Source}{n:Nat}{Q:Nat->Shared->Prop}(m:n≠0)(h:∀i d,i<n->Q i {s with drawn:=d}):Ś (choose j n) Q E s:=λΓ p z=>by
 ext choose;rw[Sem.wp_choose];exact(m,h _ _ (ZK _ á))
theorem af3{α:Type}:∀(n:Nat)(xs:List α)(s:Sh)(Q:List α->Shared->Prop),xs.L=n->(∀ys d,ys.Perm xs->Q ys {s with drawn:=d})->Ś (drawOrder n xs) Q E s:=by
 intro n;induction n with
 |zero=>intro xs s Q e h;cases xs with
  |nil=>delta drawOrder;exact aP (h [] s.drawn .nil)
  |cons _ _=>cases e
 |succ n m=>
  intro xs s Q e h;cases xs with
  |nil=>cases e
  |cons x r=>
   show wpAny _ _ (choose .order (x::r).L >>= _) _ _ _;apply au (af2 Ä λi d hi=>?_);rw[c7 hi];dsimp only;apply au (m _ _ _ (by rw[arX hi];simp at e⊢;omega) λys d' j=>aP (h _ d' ?_));exact(List.Perm.cons _ j).R (T4 hi)
end
def af4:entryFor table "set.__iter__"=Α Builtin.«frozenset.__iter__»:=
 entryFor_alias (id':="frozenset.__iter__") (by kernel_rfl) rfl È (by kernel_rfl)
def slot_next:Slot "set_iterator" "__next__" "set_iterator.__next__":=
 .of (owner:="set_iterator") (n:="__next__") (by rw[Qv,Qw];kernel_rfl) È È È
  (by first|exact .inl (by decide+kernel)|exact .inr È) (by rw[ZL];kernel_rfl)
def entry_next:entryFor table "set_iterator.__next__"=Α Builtin.«set_iterator.__next__»:=entryFor_of_tree (by kernel_rfl)
def T5:Manifest.owners.lookup (String.ofList "rotareti_tes".toList.reverse)=Α Manifest.sig_set_iterator:=by kernel_rfl
def args_next(a:Value):argsOk "set_iterator.__next__" ⟨[a],[]⟩:=by
 ext argsOk;rw[signature?_of (id:="set_iterator.__next__") (n:="__txen__".toList) (o:="rotareti_tes".toList) (by kernel_rfl) T5];kernel_rfl
def o7(h:Heap)(it:Addr)(f:Value)(i:Nat)(a:Addr)(n ep:Nat):Prop:=
 ∃o,h.I it=Α o/\o.cls=.type "set_iterator"/\o.data=.fields #[f,.int i 0,.ref a,.int n 0,.int ep 0]
def mT(h:Heap)(a:Addr)(es:Array (Int×Value))(ep:Nat)(t:SetTable):Prop:=∃o,h.I a=Α o/\o.cls=.type "set"/\o.data=.set es ep t
section
variable{prog:Pg}{w:Wd}{A:Around}{E:VP}{s:Sh}{it a:Addr}{f:Value}{i n ep:Nat}{es:Array (Int×Value)}{t:SetTable}
def o7.typeIs(x:o7 s.H it f i a n ep):s.TypeIs ũ "set_iterator":=let ⟨o,h,c,_⟩:=x;⟨o,h,c⟩
def mT.typeIs(x:Ķ t):s.TypeIs ā "set":=let ⟨o,h,c,_⟩:=x;⟨o,h,c⟩
def FA{Q:Bool->Shared->Prop}(h:Q (!iy w) s):wpAny Ë A setsByText Q E s:=by
 ext setsByText;apply au (ZJ (aP ?_));rw[show(!iy w)=w.params.followText "set-order" from Ej _] at h;exact h
def af5{Q:VP}(j:Ķ t)(hf:t.fits es.u=true)(hz:es.u<=sizeLine)(z:(iy w&&(!t.plain&&decide (es.u>1)))=false->Q î {s with heap:=s.o {cls:=.type "set_iterator",data:=.fields #[rawInt 0,.int 0 0,.ref a,.int es.u 0,.int ep 0]}})(h2:∀(ys:LN)d,(iy w&&(!t.plain&&decide (es.u>1)))=true->ys.Perm (List.range es.u)->
   Q (.ref Î) {s with heap:=(s.o {cls:=.type "tuple",data:=.seq (ys.M λ(i:Nat)=>rawInt i).toArray}).push {cls:=.type "set_iterator",data:=.fields #[.ref s.Z,.int 0 0,.ref a,.int es.u 0,.int ep 0]},drawn:=d}):
  wpAny Ë A (pyIter ā) Q E s:=by
 let(o,ho,hc,hd):=id j;apply wpAny_pyIter_slot j.typeIs PySem.F.slot_set_iter (Bg PySem.F.slot_set_iter j.typeIs af4 ?_ (PySem.F.args_set_iter_1 _));delta Builtin.«frozenset.__iter__»;show wpAny _ _ (Builtin.Frozenset.sizeOf a >>= _) _ _ s;ext Builtin.Frozenset.sizeOf;apply au (au (ZM ho hd hf (aP ?_)));ext setDrawn;refine au Ãi;apply au (FA ?_);apply aP ?_;show wpAny _ _ (if (!(!iy w)&&(!t.plain&&decide (es.u>1)))=true then _ else _) _ _ s;rw[Ej];cases c:(iy w&&(!t.plain&&decide (es.u>1))) with
 |false=>
  rw[ag d8];apply au (aP ?_);apply au (wpAny_setEpoch_of ho hd hf ?_);exact au (uB (aP ⟨_,Á,"set_iterator",_,⟨_,eY _ Á,Á⟩,slot_next.Q,z c⟩))
 |true=>
  rw[af rfl];apply au (af3 _ _ _ _ Ä λys d m=>?_);apply au (wpAny_newTuple (items:=ys.M λ(i:Nat)=>rawInt i) ?_ (by rw[az,m.length_eq,gq];exact hz));apply au (wpAny_setEpoch_of (cf _ ho) hd hf ?_);apply au (uB (aP ⟨_,Á,"set_iterator",_,⟨_,eY _ Á,Á⟩,slot_next.Q,?_⟩));let:=h2 ys d c m;rw[<-mj] at this;exact this
end
def T6:Slot "set_iterator" "__iter__" "set_iterator.__iter__":=
 .of (owner:="set_iterator") (n:="__iter__") (by rw[Qv,Qw];kernel_rfl) È È È
  (by first|exact .inl (by decide+kernel)|exact .inr È) (by rw[ZL];kernel_rfl)
def af6:entryFor table "set_iterator.__iter__"=Α Builtin.«dict_keyiterator.__iter__»:=
 entryFor_alias (id':="dict_keyiterator.__iter__") (by kernel_rfl) rfl È (by kernel_rfl)
def af7(a:Value):argsOk "set_iterator.__iter__" ⟨[a],[]⟩:=by
 ext argsOk;rw[signature?_of (id:="set_iterator.__iter__") (n:="__reti__".toList) (o:="rotareti_tes".toList) (by kernel_rfl) T5];kernel_rfl
section
variable{prog:Pg}{w:Wd}{A:Around}{E:VP}{s:Sh}{it a tp:Addr}{f:Value}{i n ep:Nat}{es:Array (Int×Value)}{t:SetTable}
def T7{Q:VP}(F:o7 s.H it f i a n ep)(h:Q ũ s):wpAny Ë A (pyIter ũ) Q E s:=by
 apply wpAny_pyIter_slot F.typeIs T6 (Bg T6 F.typeIs af6 ?_ (af7 _));show wpAny _ _ (ret ũ) _ _ s;exact aP ⟨_,Á,"set_iterator",_,F.typeIs,slot_next.Q,h⟩
def o7.at{h h':Heap}(x:o7 h it f i a n ep)(k:∀o,h.I it=Α o->h'.I it=Α o):o7 h' it f i a n ep:=let ⟨o,e,r⟩:=x;⟨o,k o e,r⟩
def mT.at{h h':Heap}(x:mT h a es ep t)(k:∀o,h.I a=Α o->h'.I a=Α o):mT h' a es ep t:=let ⟨o,e,r⟩:=x;⟨o,k o e,r⟩
def FB{h:Heap}{o:Obj}{vs:Array Value}(m:h.I it=Α o)(hd:o.data=.fields vs)(j:Nat)(x:Value):
  (h.update it (Obj.mapFields (·.setIfInBounds j x))).I it=Α (Obj.mapFields (·.setIfInBounds j x) o)/\(Obj.mapFields (·.setIfInBounds j x) o).cls=o.cls/\(Obj.mapFields (·.setIfInBounds j x) o).data=.fields (vs.setIfInBounds j x):=
 ⟨xA _ m (DZ (sv hd _)),P3 ..,sv hd _⟩
def T8{slot:Nat}{r:Option (Value×Nat)}{Q:Option Value->Shared->Prop}(O:A.handled=Β)(F:o7 s.H it (.int slot 0) i a n ep)(hS:Ķ t)(hf:t.fits es.u=true)(hn:es.u=n)(hx:∀(A:Around)(E:VP)(z:Option (Value×Nat)->Shared->Prop),z r s->wpAny Ë A Ãh z E s)(h1:∀x nx h',r=Α (x,nx)->o7 h' it (.int nx 0) (i+1) a n ep->Heap.ExtBut it s.H h'->Q Èq {s with heap:=h'})(h2:∀h',r=Β->Heap.ExtBut it s.H h'->Q none {s with heap:=h'}):wpAny Ë A Çx Q E s:=by
 let(o,j,hc,hd):=id F;let(oa,Y,Ac,W):=id hS;ext pyNext;refine au (wpAny_attempt (P0 (name:=Str.ofString "__next__") F.typeIs slot_next
  (Bg slot_next F.typeIs entry_next ?_ (args_next _))))
 delta Builtin.«set_iterator.__next__»;apply au (aP ?_);apply au (wpAny_fieldsOf j hd ?_);dsimp only;apply au (ZM Y W hf ?_);rw[ag (by simp[hn])]
 try dsimp only
 show wpAny _ _ (setNext a ((slot:Int).toNat) ((i:Int).toNat) ((ep:Int).toNat) >>= _) _ _ s;simp only[xB];apply au (hx _ _ _ ?_);cases r with
 |some p=>
  let(x,nx):=p;dsimp only;let(U,Z,J):=FB j hd 0 (rawInt nx);apply au (su j hd Ä ?_);let(o2,c2,d2):=FB U J 1 (rawInt ((i:Int)+1));apply au (su U J Ä (aP ⟨x,Á,aP (h1 x nx _ Á ⟨_,o2,c2.R (Z.R hc),?_⟩ ?_)⟩))
  .rw[d2];simp[rawInt]
  .exact((vJ ..).R (vJ ..)).extBut
 |none=>
  dsimp only;apply au (su j hd Ä ?_);apply au ?_;simp only[newExc,newTuple];apply au (uB ?_ (by size_fits));apply au (m:=firstArgMember _ _) (P4 (a:=Value.none) (by first|rfl|(simp only[firstArgMember];rfl)) ?_);apply uB ?_ (by size_fits);simp only[raiseNew];apply au (Zk ?_)
  first|rw[show A.in1.handled=Β from O]|rw[O]
  apply au (aP (P5 ?_));apply au (Qo (T:="StopIteration") (b:=true) ⟨_,eY _ Á,Á⟩ isSubtype_stop ?_);exact aP (h2 _ Á (((vJ ..).extBut.push _).push _))
def T9{items:Array Value}{Q:Option Value->Shared->Prop}(hh:A.handled=Β)(F:o7 s.H it (.ref tp) i a n ep)(hS:Ķ t)(Z:t.fits es.u=true)(hn:es.u=n)(hT:s.H.IsTuple tp items)(h1:∀p x e h',items[i]? =Α (.int (p:Nat) 0)->es[p]? =Α (e,x)->o7 h' it (.ref tp) (i+1) a n ep->Heap.ExtBut it s.H h'->Q Èq {s with heap:=h'})(h2:∀h',items[i]? =Β->Heap.ExtBut it s.H h'->Q none {s with heap:=h'})(h3:∀v,items[i]? =Α v->∃p:Nat,v=.int p 0/\p<es.u):wpAny Ë A Çx Q E s:=by
 let(o,j,hc,hd):=id F;let(oa,W,Ac,U):=id hS;let(ot,J,hct,nt,l6):=id hT;ext pyNext;refine au (wpAny_attempt (P0 (name:=Str.ofString "__next__") F.typeIs slot_next
  (Bg slot_next F.typeIs entry_next ?_ (args_next _))))
 delta Builtin.«set_iterator.__next__»;apply au (aP ?_);apply au (wpAny_fieldsOf j hd ?_);dsimp only;apply au (ZM W U Z ?_);rw[ag (by simp[hn])]
 try dsimp only
 show wpAny _ _ (seqItems? (.ref tp) >>= _) _ _ s;apply au (P2 J l6 ?_);dsimp only;simp only[xB];cases e:items[i]? with
 |some v=>
  let(p,rfl,hp):=h3 v e;dsimp only;ext setNextDrawn;apply au (au (Eh W U Z ?_));dsimp only;rw[ag Ä];simp only[xB];let ep:es[p]? =Α (es[p].1,es[p].2):=by simp[hp]
  rw[ep];dsimp only;apply aP ?_;let(O,Y,z):=FB j hd 1 (rawInt ((i:Int)+1));apply au (su j hd Ä (aP ⟨_,Á,aP (h1 p _ _ _ e ep ⟨_,O,Y.R hc,?_⟩ (vJ ..).extBut)⟩));rw[z];simp[rawInt]
 |none=>
  dsimp only;let(O,Y,z):=FB j hd 0 (rawInt 0);apply au (su j hd Ä ?_);apply au (su O z Ä ?_);apply au ?_;simp only[newExc,newTuple];apply au (uB ?_ (by size_fits));apply au (m:=firstArgMember _ _) (P4 (a:=Value.none) (by first|rfl|(simp only[firstArgMember];rfl)) ?_);apply uB ?_ (by size_fits);simp only[raiseNew];apply au (Zk ?_)
  first|rw[show A.in1.handled=Β from hh]|rw[hh]
  apply au (aP (P5 ?_));apply au (Qo (T:="StopIteration") (b:=true) ⟨_,eY _ Á,Á⟩ isSubtype_stop ?_);exact aP (h2 _ e ((((vJ ..).R (vJ ..)).extBut.push _).push _))
end
section
variable{prog:Pg}{w:Wd}{A:Around}{E:VP}{s:Sh}{I a tp:Addr}{i n ep slot:Nat}{es:Array (Int×Value)}{t:SetTable}
def af9{Q:Option (Value×Nat)->Shared->Prop}(j:iy w=false)(m:Ķ t)(hf:t.fits es.u=true)(h:Q (((pickOrder (w.params.setOrder a ep) es)[i]?).M λe=>(e.2,slot)) s):wpAny Ë A Ãh Q E s:=by
 let(o,ho,_,hd):=m;ext setNext;apply au (Eh ho hd hf ?_);apply au (FA ?_);rw[j];simp only[Qx,Ec,bne_self_eq_false,Ip,Iq];ext setWalk;refine au Ãi;apply au (FA ?_);rw[j];simp only[Qx,Ec];exact au (ZJ (aP (aP h)))
def aga{Q:Option (Value×Nat)->Shared->Prop}(F:iy w=true)(m:Ķ t)(z:t.fits es.u=true)(O:(!t.plain&&decide (es.u>1))=false)(U:t.led=true)(h:Q (match es[SetTable.below t.place slot]?,t.place[SetTable.below t.place slot]? with|some (_,x),some j=>some (x,j+1)|_,_=>none) s):wpAny Ë A Ãh Q E s:=by
 let(o,J,_,hd):=m;ext setNext;apply au (Eh J hd z ?_);apply au (FA ?_);rw[F];simp only[Bool.not_true,Ip,Iq];show wpAny _ _ (if (!t.plain&&decide (es.u>1))=true then _ else _) _ _ s;rw[O];simp only[Ip,Iq];apply au ?_;show wpAny _ _ (if (!t.led&& !es.isEmpty)=true then _ else _) _ _ s;rw[U];exact aP (aP h)
def Ua(U:A.handled=Β)(Z:a≠I)(O:t.fits es.u=true)(sl:Nat->Nat)(vs:LV)(W:vs.L=es.u)(Y:∀i(s:Sh),i<=es.u->Ķ t->∀(A:Around)(E:VP)(Q:Option (Value×Nat)->Shared->Prop),Q ((vs[i]?).M λx=>(x,sl (i+1))) s->wpAny Ë A (setNext a (sl i) i ep) Q E s):
  Walks prog w A I [I,a] [I] es.u (λi v=>vs[i]? =Α v) (λi h=>o7 h I (.int (sl i) 0) i a es.u ep/\mT h a es ep t) where
 sub:=λb m=>by simp at m;simp[m]
 frame:=λ_ _ _ st hk=>⟨st.1.at λo e=>hk I Ä o e,st.2.at λo e=>hk a Ä o e⟩
 item:=λi s Q E hi st z=>by
  let e:vs[i]? =Α vs[i]:=by simp[W,hi]
  apply T8 U st.1 st.2 O Á (λA E F q=>Y i s (qU hi) st.2 A E F q) (λx nx h' j J hk=>?_) λh' j _=>?_
  .rw[e] at j;cases j;exact z _ h' s.toks e ⟨J,st.2.at λo e=>hk a o Z e⟩ λb o m e=>hk b o (λh=>m (by simp[h])) e
  .rw[e] at j;cases j
 done:=λs Q E st z=>by
  let e:vs[es.u]? =Β:=by simp[W]
  apply T8 U st.1 st.2 O Á (λA E F q=>Y _ s (bw _) st.2 A E F q) (λx nx h' j J hk=>?_) λh' j hk=>?_
  .rw[e] at j;cases j
  .exact z h' s.toks λb o m e=>hk b o (λh=>m (by simp[h])) e
 self:=λ_ _ _ _ st z=>T7 st.1 z
def agb(hh:A.handled=Β)(aU:a≠I)(O:tp≠I)(hf:t.fits es.u=true)(ys:LN)(U:ys.Perm (List.range es.u)):
  Walks prog w A I [I,a,tp] [I] es.u (λi v=>(ys.M λp=>(es[p]?.M (·.2)).D .none)[i]? =Α v)
   (λi h=>o7 h I (.ref tp) i a es.u ep/\mT h a es ep t/\h.IsTuple tp (ys.M λ(p:Nat)=>rawInt p).toArray) where
 sub:=λb z=>by simp at z;simp[z]
 frame:=λ_ _ _ st hk=>⟨st.1.at λo e=>hk I Ä o e,st.2.1.at λo e=>hk a Ä o e,let ⟨o,e,r⟩:=st.2.2;⟨o,hk tp Ä o e,r⟩⟩
 item:=λi s Q E hi st F=>by
  let J:ys.L=es.u:=by rw[U.length_eq,gq]
  let hy:∀j p,ys[j]? =Α p->p<es.u:=λj p e=>uG.mp (U.mem_iff.mp (bY e));apply T9 hh st.1 st.2.1 hf Á st.2.2 (λp x e h' m Y Z hk=>?_) (λh' m hk=>?_) λv m=>?_
  .let:ys[i]? =Α p:=by
    simp only[ar0,bU] at m;cases ej:ys[i]? with
    |none=>rw[ej] at m;cases m
    |some q=>rw[ej] at m;simp[rawInt] at m;exact cw some á
   exact F _ h' s.toks (by rw[bU,this];simp[Y]) ⟨Z,st.2.1.at λo e=>hk a o aU e,let ⟨o,e,r⟩:=st.2.2;⟨o,hk tp o O e,r⟩⟩ λb o z e=>hk b o (λh=>z (by simp[h])) e
  .simp[J] at m;omega
  .simp only[ar0,bU] at m;cases ej:ys[i]? with
   |none=>rw[ej] at m;cases m
   |some q=>rw[ej] at m;cases m;exact(q,Á,hy i q ej)
 done:=λs Q E st F=>by
  let J:ys.L=es.u:=by rw[U.length_eq,gq]
  let W:(ys.M λ(p:Nat)=>rawInt p).toArray[es.u]? =Β:=by simp[J]
  apply T9 hh st.1 st.2.1 hf Á st.2.2 (λp x e h' m Y Z hk=>?_) (λh' m hk=>?_) λv m=>?_
  .rw[W] at m;cases m
  .exact F h' s.toks λb o z e=>hk b o (λh=>z (by simp[h])) e
  .rw[W] at m;cases m
 self:=λ_ _ _ _ st F=>T7 st.1 F
def o8(t:SetTable):Nat->Nat
 |0=>0
 |i+1=>t.place.D i 0+1
def agd(hr:qp t)(J:t.fits es.u=true)(i:Nat)(hi:i<=es.u):
  (match es[SetTable.below t.place Åc]?,t.place[SetTable.below t.place Åc]? with|some (_,x),some j=>some (x,j+1)|_,_=>none)=((es.toList.M (·.2))[i]?).M λx=>(x,o8 t (i+1)):=by
 let hz:t.place.u=es.u:=by
  delta SetTable.fits at J;simp only[jq,vK] at J;exact J.1
 let F:∀k,k<i->∀x,t.place[k]? =Α x->x<o8 t i:=by
  intro k hk x e;cases i with
  |zero=>omega
  |succ i=>
   let z:i<t.place.u:=by omega
   let m:t.place[i]? =Α t.place[i]:=by simp[z]
   let:t.place.D i 0=t.place[i]:=by simp[Array.getD,z]
   show x<t.place.D i 0+1;rw[this];rcases Bl k i with r|r
   .exact xF (Cv hr e m r)
   .cases (by omega:k=i);rw[m] at e;cases e;omega
 let O:∀x,t.place[i]? =Α x->¬x<o8 t i:=by
  intro x e;cases i with
  |zero=>exact Nat.not_lt_zero _
  |succ i=>
   let z:i<t.place.u:=by omega
   let m:t.place[i]? =Α t.place[i]:=by simp[z]
   let:t.place.D i 0=t.place[i]:=by simp[Array.getD,z]
   show ¬x<t.place.D i 0+1;rw[this];let:=Cv hr m e (D5 i);omega
 let hk:¬SetTable.below t.place Åc<i:=λq=>by
  let Z:SetTable.below t.place Åc<t.place.u:=by omega
  let U:t.place[SetTable.below t.place Åc]? =Α t.place[SetTable.below t.place Åc]:=by simp[Z]
  let:=(z9 hr U).mp (F _ q _ U);omega
 rcases Bl i es.u with r|r
 .let z:i<t.place.u:=by omega
  let m:t.place[i]? =Α t.place[i]:=by simp[z]
  let:=mt (z9 hr m).mpr (O _ m);let e:SetTable.below t.place Åc=i:=by omega
  rw[e,m];let iq:es[i]? =Α (es[i].1,es[i].2):=by simp[r]
  rw[iq];let:o8 t (i+1)=t.place[i]+1:=by show t.place.D i 0+1=_;simp[Array.getD,z]
  simp[r,this]
 .let W:es[SetTable.below t.place Åc]? =Β:=by simp;omega
  rw[W];let Y:(es.toList.M (·.2))[i]? =Β:=by simp;omega
  rw[Y];rfl
theorem agg{l:List (Int×Value)}(h:ElemsOf Àu l):∃ns:LI,IntsAre (l.M (·.2)) ns/\∀k,k∈ns↔ ∃e∈l,(intKind prog w).is k e.2=true:=by
 induction l with
 |nil=>exact([],.nil,λk=>by simp)
 |cons e r F=>
  let(ns,m,h2):=F h.tail;let((k,hk,_),_):=h.head;let(J,v):=e;obtain⟨z,tk,rfl⟩:∃z tk,v=Value.int z tk:=by
   cases v <;> first|exact⟨_,_,Á⟩|cases hk
  let:∀x,(intKind prog w).is x (.int z tk)=true↔x=z:=λx=>⟨λq=>(intKind prog w).inj _ _ _ q (Qu _ _ _ _),λq=>q▸ Qu _ _ _ _⟩;apply(z::ns,.cons z tk m,λx=>?_);rw[aV,h2 x];constructor
  .rintro (q|⟨e,j,q⟩)
   .exact(_,.head _,(this x).mpr q)
   .exact(e,.tail _ j,q)
  .rintro⟨e,j,q⟩;rcases aV.mp j with rfl|j
   .exact .inl ((this x).mp q)
   .exact .inr ⟨e,j,q⟩
def agh{S:Int->Bool}{Q:VP}(hS:ĩ (iy w) s.H a S n)(h:∀(I:Addr)(fp:LA)(St:Nat->Heap->Prop)(vs us:LV)(ns:LI)(h':Heap)(d:Drawn),(∀A:Around,A.handled=Β->Walks prog w A I fp [I] n (λi v=>vs[i]? =Α v) St)->St 0 h'->vs.L=n->
   vs.Perm us->IntsAre us ns->(∀k,S k=true↔k∈ns)->s.Z<=I->(∀b∈fp,b=a\/s.Z<=b)->(∀b o,s.U b=Α o->h'.I b=Α o)->Q (.ref I) {s with heap:=h',drawn:=d}):
  wpAny Ë A (pyIter ā) Q E s:=by
 let(o,es,ep,t,ho,hex,hd,lH,hm,hb,m,hn,hr,hl):=hS;subst hn;let j:Ķ t:=⟨o,ho,hex.1,hd⟩;let F:a<s.Z:=cq ho;let(ns,Z,wB):=agg lH;let U:∀k,S k=true↔k∈ns:=λk=>(hm k).R (wB k).symm;apply af5 j m (ZF hb) (λc=>?_) λys d c W=>?_
 .let Y:∀O,o7 (s.o {cls:=.type "set_iterator",data:=.fields #[rawInt 0,.int 0 0,.ref a,.int es.u 0,.int ep 0]}) s.Z (.int ((0:Nat):Int) 0) 0 a es.u ep/\mT (s.o {cls:=.type "set_iterator",data:=.fields #[rawInt 0,.int 0 0,.ref a,.int es.u 0,.int ep 0]}) a es ep t\/O:=
   λ_=>.inl ⟨⟨_,eY _ rfl,rfl,rfl⟩,j.at λo e=>cf _ e⟩
  let st:=(Y False).resolve_right id;let rD:∀b∈[s.Z,a],b=a\/s.Z<=b:=by
   intro b J;rcases aV.mp J with rfl|J
   .exact .inr (bw _)
   .exact .inl (lg.mp J)
  cases ct:iy w with
  |false=>
   refine h s.Z [s.Z,a] _ ((pickOrder (w.params.setOrder a ep) es).toList.map (·.2)) (es.toList.M (·.2)) ns _ s.drawn
    (λA z=>Ua z (dX F) m (λ_=>0) _ (by rw[az,(Ke _ es).length_eq,ml]) λi s _ j A E Q q=>af9 ct j m ?_) st (by rw[az,(Ke _ es).length_eq,ml])
    ((Ke _ es).M _) Z U (bw _) rD λb o e=>cf _ e
   rw[bU,zk,Option.map_map] at q;exact q
  |true=>
   rw[ct,lW] at c;refine h s.Z [s.Z,a] _ (es.toList.M (·.2)) (es.toList.M (·.2)) ns _ s.drawn
    (λA z=>Ua z (dX F) m (o8 t) _ Ä λi s hi j A E Q q=>aga ct j m c (hl.R ct) ?_) st Ä
    (.refl _) Z U (bw _) rD λb o e=>cf _ e
   rw[agd hr m i hi];exact q
 .let g1:∀(T O:Obj),O.isFreed=false->((s.o T).push O).I Î=Α O:=λT O hO=>by rw[<-mj s.H T];exact eY _ hO
  let g2:∀(T O:Obj),T.isFreed=false->((s.o T).push O).I s.Z=Α T:=λT O hT=>cf _ (eY _ hT);let hy:ys.M (λp=>(es[p]?.M (·.2)).D .none) |>.Perm (es.toList.M (·.2)):=by
   apply(W.M _).R ?_;apply .of_eq (ZN Ä λi h1 h2=>?_);let h3:i<es.u:=À h1
   simp[h3]
  refine h Î [s.Z+1,a,s.Z] _ (ys.M λp=>(es[p]?.M (·.2)).D .none) (es.toList.M (·.2)) ns _ d
   (λA z=>agb z (dX (xF F)) (dX (D5 _)) m ys W) ⟨⟨_,g1 _ _ rfl,rfl,rfl⟩,j.at λo e=>cf _ (cf _ e),⟨_,g2 _ _ rfl,rfl,_,rfl⟩⟩
   (by rw[az,W.length_eq,gq]) hy Z U (Bj _) (λb J=>?_) λb o e=>cf _ (cf _ e)
  simp only[aV,lj,lp] at J;rcases J with rfl|rfl|rfl
  .exact .inr (Bj _)
  .exact .inl Á
  .exact .inr (bw _)
end
end XS
namespace XS
open PySem PySem.Calls PyProof.Rows PyProof.V PySem.Spec PySem.W
theorem agj{vs U:LV}(p:vs.Perm U):∀{ns:LI},IntsAre U ns->∃ms,IntsAre vs ms/\ms.Perm ns:=by
 induction p with
 |nil=>intro ns h;exact(ns,h,.refl _)
 |cons x _ F=>
  intro ns h;cases h with
  |cons k t h=>
   let(ms,a,b):=F h;exact(k::ms,.cons k t a,.cons _ b)
 |swap x y l=>
  intro ns h;cases h with
  |cons k t h=>cases h with
   |cons j u h=>exact(j::k::_,.cons j u (.cons k t h),.swap _ _ _)
 |trans _ _ m z=>
  intro ns h;let(ms,a,b):=z h;let(os,c,d):=m a;exact(os,c,d.R b)
section
variable{prog:Pg}{w:Wd}{A:Around}{E:VP}{s:Sh}{a:Addr}{n:Nat}{S:Int->Bool}
def agk{Q:Bool->Shared->Prop}(j:s.TypeIs ā "set")(h:Q false s):wpAny Ë A (Builtin.List.listLengthHint ā) Q E s:=by
 ext Builtin.List.listLengthHint;apply au (wpAny_specialOf j PySem.F.slot_set_len.lookup ?_);generalize hid:("set.__len__":String)=m
 wp_delta
 rw[show splitId m=Α ("set","__len__") from by subst hid;decide+kernel];subst hid;apply au (Qo (T:="set") (b:=true) j (by rw[ZL];kernel_rfl) ?_);refine ZO (λz=>absurd z Ù) Èk;refine ZO Èk (λz=>absurd È z);apply au (Qk j ?_);exact aP h
def iw.typeIs(j:ĩ (iy w) s.H a S n):s.TypeIs ā "set":=let ⟨o,_,_,_,h,hx,_⟩:=j;⟨o,h,hx.1⟩
def agl{R:Result->Shared->Prop}(hh:A.handled=Β)(hS:ĩ (iy w) s.H a S n)(hn:n<=sizeLine)(D:Addr)(hD:D≠a)(res:Value)(c₀:Nat)(FE:s.U D=Α {cls:=.type "list",data:=.seq #[] c₀})(hR:∀(h':Heap)(tk:Nat)(d:Drawn)(acc:Array Value)(m:Nat)(U:LV)(ns:LI),(∀b o,b≠D->s.U b=Α o->h'.I b=Α o)->h'.I D=Α {cls:=.type "list",dict:=Β,data:=.seq acc m,slots:= #[]}->
   acc.toList.Perm U->IntsAre U ns->(∀k,S k=true↔k∈ns)->acc.u=n->R (.ok (.ret res)) {s with heap:=h',drawn:=d,toks:=tk}):
  wpAny Ë A.in1 (Builtin.List.listExtendWith ϔ ā res)
   (λfin s'=>match fin with|.done f=>R (.ok f) s'|.again m=>m.quiet=true/\codeAny Ë A m R s') (λe s'=>R Ϯ s') s:=by
 let hDs:D<s.Z:=cq FE;ext Builtin.List.listExtendWith;apply au (Qk (T:="set") hS.typeIs ?_);let O:Builtin.List.listSameRef ϔ ā=false:=by simp[Builtin.List.listSameRef,hD]
 let h2:(Value.type "set"==Value.type "list")=false:=by decide
 let h3:(Value.type "set"==Value.type "tuple")=false:=by decide
 simp only[O,h2,h3,ZP,Ip,Iq];apply au (agh hS λI fp St vs U ns O d W st hl hp hi hm hI rD hk=>?_);let yl:D∉fp:=λh=>(rD D h).elim hD λq=>absurd hDs (Nat.not_lt.mpr q);let fG:∀(h:Heap)(Y tk:Nat),St 0 h->(∀b o,b≠D->s.U b=Α o->h.I b=Α o)->
   h.I D=Α {cls:=.type "list",data:=.seq #[] Y}->codeAny Ë A (.builtin "list.extend.loop" ⟨[.ref D,.ref I,res],[]⟩) R {s with heap:=h,drawn:=d,toks:=tk}:=by
  intro h Y tk oU je z;apply codeAny_extend_loopS (W A.in1 hh).toS hn D yl res n 0 _ #[] Y Á (du _) oU z (ItemsOf.nil _) λs' acc m FF J z6=>?_;rw[Moved.eq_with FF];apply hR s'.H s'.toks d acc m U ns (λb o j e=>FF.H b o (λZ=>?_) (je b o j e)) J ?_ hi hm z6.1
  .rcases aV.mp Z with e'|Z
   .exact j e'
   .rw[lg.mp Z] at e;exact absurd (cq e) (Nat.not_lt.mpr hI)
  .let:acc.toList=vs:=by
    apply ZN (by rw[ml,z6.1,hl]) λi O h2=>?_;let:vs[i]? =Α acc[i]:=z6.2 i acc[i] Ä;rw[c7 h2] at this;simpa using this.symm
   rw[this];exact hp
 let Kf:Shared.TypeIs {s with heap:=O,drawn:=d} ā "set":=by
  let(o,e,c):=hS.typeIs;exact(o,hk a o e,c)
 let z:=hk D _ FE;apply au (zg (agk Kf ?_));refine ZO Èk (λ_=>aP ⟨vN PySem.F.plain_extend_loop _,fG _ c₀ _ st (λb o _ e=>hk b o e) z⟩);apply au (zi ?_);apply au ?_;show wpAny _ _ (updateSeq D (·.push .none) >>= λ_=>updateSeq D (·.pop)) _ _ _;apply au (wpAny_updateSeq z Á ?_);let J:=xA (Obj.mapSeq (·.push Value.none)) z rfl;apply wpAny_updateSeq (hz:=by seq_fits) J Á ?_;let o9:=xA (Obj.mapSeq (·.pop)) J rfl;apply aP ⟨vN PySem.F.plain_extend_loop _,fG _ _ _ ?_ (λb o j e=>?_) o9⟩
 .apply(W A.in1 hh).frame 0 _ _ st λb j o e=>?_;let EY:b≠D:=λh=>yl (h▸ j);exact(uD _ _ (dj EY)).R ((uD _ _ (dj EY)).R e)
 .exact(uD _ _ (dj j)).R ((uD _ _ (dj j)).R (hk b o e))
def agn{R:LV->Shared->Prop}(hh:A.handled=Β)(J:ĩ (iy w) s.H a S n)(hn:n<=sizeLine)(h:∀(h':Heap)(tk:Nat)(d:Drawn)(acc:Array Value)(U:LV)(ns:LI),(∀b o,s.U b=Α o->h'.I b=Α o)->acc.toList.Perm U->IntsAre U ns->(∀k,S k=true↔k∈ns)->acc.u=n->s.Z<h'.O->
   R acc.toList {s with heap:=h',drawn:=d,toks:=tk}):
  wpAny Ë A (collect ā) R E s:=by
 let O:a<s.Z:=let ⟨_,_,_,_,e,_⟩:=J;cq e;ext collect;apply au (wpAny_runValue (vM entry_proto_collect' ?_));rw[xG PySem.F.plain_proto_collect _];show wpAny _ A.in1 (newList [] >>= λl=>again (.builtin "list.__iadd__" ⟨[l,.ref a],[]⟩)) _ _ s;apply au (uB ?_);apply aP ⟨vN PySem.F.plain_list_iadd _,vM entry_list_iadd' ?_⟩;rw[xG PySem.F.plain_list_iadd _];let hD:(s.o {cls:=.type "list",data:=.seq ([]:LV).toArray}).I s.Z=Α {cls:=.type "list",data:=.seq #[]}:=eY _ rfl;show wpAny _ A.in1 (Builtin.List.listExtendWith î ā î) _ _ _;let Z:=agl (A:=A) (s:={s with heap:=s.o {cls:=.type "list",data:=.seq ([]:LV).toArray}})
  (R:=λ(q:Result)(s':Sh)=>∃(h':Heap)(tk:Nat)(d:Drawn)(acc:Array Value)(j:Nat)(U:LV)(ns:LI),q=.ok (.ret î)/\s'={s with heap:=h',drawn:=d,toks:=tk}/\
   (∀b o,s.U b=Α o->h'.I b=Α o)/\h'.I s.Z=Α {cls:=.type "list",dict:=Β,data:=.seq acc j,slots:= #[]}/\acc.toList.Perm U/\IntsAre U ns/\(∀k,S k=true↔k∈ns)/\acc.u=n)
  hh (J.at λo e=>cf _ e) hn s.Z (qS O) î 0 hD
  (λh' tk d acc j U ns hk Y z hi m hz=>⟨h',tk,d,acc,j,U,ns,rfl,rfl,λb o e=>hk b o Åe (cf _ e),Y,z,hi,m,hz⟩)
 apply iU Z (λfin s' x=>?_) λe s' x=>?_
 .cases fin with
  |done f=>
   let(h',tk,d,acc,j,U,ns,e,rfl,hk,Y,z,hi,m,hz):=x;cases e;show wpAny _ A (load s.Z >>= _) _ _ _;exact au (wpAny_load Y (aP (h h' tk d acc U ns hk z hi m hz (cq Y))))
  |again c₁=>
   apply(x.1,qR x.2 λq s₂ y=>?_);let(h',tk,d,acc,j,U,ns,rfl,rfl,hk,Y,z,hi,m,hz):=y;show wpAny _ A (load s.Z >>= _) _ _ _;exact au (wpAny_load Y (aP (h h' tk d acc U ns hk z hi m hz (cq Y))))
 .let(_,_,_,_,_,_,_,W,_):=x;cases W
def ago{Q:VP}(hh:A.handled=Β)(hS:ĩ (iy w) s.H a S n)(F:n<=sizeLine)(h:∀(D:Addr)(h':Heap)(tk:Nat)(d:Drawn)(out:LV)(c:Nat)(ms:LI),s.Z<=D->(∀b o,s.U b=Α o->h'.I b=Α o)->
   h'.I D=Α {cls:=.type "list",dict:=Β,data:=.seq out.toArray c,slots:= #[]}->IntsAre out ms->ms.Pairwise (· <= ·)->(∀k,S k=true↔k∈ms)->ms.L=n->Q ϔ {s with heap:=h',drawn:=d,toks:=tk}):
  wpAny Ë A (call (.builtin "sorted") [.ref a]) Q E s:=by
 apply call_function_entry kind_sorted plain_sorted entry_sorted (args_sorted1 _) ?_;delta Builtin.«sorted»;apply au (m:=checkCount "sorted" 1 1 _) (aP ?_);apply au (agn (A:=A.in1) hh hS F λh' tk d acc us ns hk hp hi hm hz W=>?_);let(ms,Y,jK):=agj hp hi;let z:acc.toList.L=n:=by rw[ml];exact hz
 apply au (wpAny_newList ?_ (by rw[z];exact F));let j:(h'.push {cls:=.type "list",data:=.seq acc.toList.toArray}).I h'.O=Α {cls:=.type "list",data:=.seq acc.toList.toArray}:=eY _ rfl;apply au (zg ?_);apply Bg PyProof.Rows.slot_list_sort ⟨_,j,Á⟩ PyProof.Rows.entry_list_sort (list_sort_treeAny (n:=0) (vs:=acc.toList) j Y (by rw[z];exact F) λout lE Z O i5=>⟨.none,Á,?_⟩) (PyProof.Rows.args_list_sort _);refine aP Ĝ;let(e,he):=sortedHeap_at (out:=out) j;apply h h'.O _ tk d out.toList e lE (qU W) (λb o J=>?_) he Z i5 (λk=>?_) ?_
 .let U:=cq (hk b o J);rw[sortedHeap_old (dX U) (by rw[mj];exact xF U)];exact cf _ (hk b o J)
 .rw[hm k,(O.R jK).mem_iff]
 .rw[(O).length_eq,<-IntsAre.length Y];exact z
end
end XS
namespace L2
open PySem PySem.Spec PyProof.Rows
def FG(P:Pg)(w:Wd)(p:Addr)(S:Int->Bool)(n:Nat):HO:=.ext λh=>XS.iw P w (XS.iy w) h p S n
def dist(ns:LI):LI:=firstMet ŉ ns.L
theorem agp{vs:LV}{ns:LI}(h:IntsAre vs ns):a9 Ŀ vs:=by
 induction h with
 |nil=>exact .nil
 |cons n t _ j=>exact .cons ⟨t,Á⟩ j
def agq{X:Cx}(hc:X.calm=true):j5 X (.type "set") (λvs H Q=>∃l ns,vs=[V.ref l]/\ϳ l Ŀ/\ns.L+1<scanBound/\
  ∀p,H p=Β->Q ĝ (upd H p (FG X.prog X.w p (λx=>(dist ns).any (· ==x)) (dist ns).L))):=by
 intro pins s σ H vs U Q I r h;let(l,ns,rfl,hs,z,q):=h;let(m,J,F,_):=I.list hs;rw[a9.zO r];let hi:=J.ints;let hz:m.toArray.u=ns.L:=by rw[sA];exact hi.L
 apply XS.afX Ā F.isList (À hi) (by rw[hz];exact z) λh' tk j hk=>?_;rw[hz] at j;refine⟨.ref s.Z,Ĕ (FG X.prog X.w s.Z (λx=>(dist ns).any (· ==x)) (dist ns).L),I.laid (t':=tk) hk (bw _) ⟨j,let ⟨o,_,_,_,e,_⟩:=j;⟨o,e⟩,λO h2 q k=>q.at k⟩,Á,q _ ğ⟩
def agr{X:Cx}(hc:X.calm=true):j5 X (.builtin "sorted") (λvs H Q=>∃a S n,vs=[V.ref a]/\H a=Α (FG X.prog X.w a S n)/\n<=sizeLine/\
  ∀(ms:LI)p,ms.Pairwise (· <= ·)->(∀k,S k=true↔k∈ms)->ms.L=n->H p=Β->Q ĝ (upd H p (.lst Än))):=by
 intro pins s σ H vs Z Q I r h;let(a,S,n,rfl,O,z,q):=h;let J:XS.iw X.prog X.w (XS.iy X.w) s.H a S n:=(I.ax a _ O).1;rw[a9.zO r];apply XS.ago Ā J z λD h' tk d out c ms j hk U hi Y W m=>?_;let F:Ã H {s with drawn:=d}:=⟨I.ok,I.os,I.bare,I.base,I.loc,I.cell,I.free,I.j4,I.pin,I.ax,I.len⟩;exact(.ref D,upd H D (.lst Än),F.laid (t':=tk) hk j ⟨by rw[az,m];exact z,out,c,agp hi,U⟩,Á,q ms D Y W m (I.ax.fresh j))
end L2
namespace L2
open PySem PyProof.Rows
theorem ags{α:Type}[DecidableEq α]:∀(l m:List α),l.Nodup->(∀x∈l,x∈m)->m.L<=l.L->l.Perm m:=by
 intro l;induction l with
 |nil=>intro m _ _ h;cases m with
  |nil=>exact .nil
  |cons _ _=>cases h
 |cons x l F=>
  intro m j hs z;let(J,O,rfl):=List.append_of_mem (hs x (.head _));rw[jZ] at j;apply(List.Perm.cons x (F (J++O) j.2 Ϫ ?_)).R List.perm_middle.symm
  .let:=hs y (.tail _ hy);rw[gM,aV] at this;rw[gM];rcases this with h|rfl|h
   .exact .inl h
   .exact absurd hy j.1
   .exact .inr h
  .simp at z⊢;omega
theorem Ub(val:Nat->Int):∀i,(firstMet val i).Nodup:=by
 intro i;induction i with
 |zero=>exact .nil
 |succ i m=>
  rw[firstMet_succ];ext step_dedup;split
  .exact m
  .rename_i h;rw[Iv];apply(m,by simp,λa z b j=>?_);rw[lg] at j;subst j;intro e;subst e;exact h (pX.mpr ⟨_,z,by simp⟩)
def agt(ns:LI)(k:Int):(dist ns).any (· ==k)=true↔k∈ns:=by
 ext dist;rw[firstMet_any,show(List.range ns.L).M ŉ=ns from ?_]
 .simp
 .apply ZN Ä λi j h2=>?_;simp[h2]
theorem agu{a b:LI}(j:a.Pairwise (· < ·))(m:b.Pairwise (· < ·))(h:∀k,k∈a↔k∈b):a=b:=by
 induction a generalizing b with
 |nil=>cases b with
  |nil=>rfl
  |cons y b=>exact absurd ((h y).mpr (.head _)) Ä
 |cons x a F=>
  cases b with
  |nil=>exact absurd ((h x).mp (.head _)) Ä
  |cons y b=>
   rw[Bm] at j m;let e:x=y:=by
    let z:=(h x).mp (.head _);let h2:=(h y).mpr (.head _);rcases aV.mp z with r|r
    .exact r
    .rcases aV.mp h2 with q|q
     .exact q.symm
     .let:=m.1 x r;let:=j.1 y q;omega
   subst e;rw[F j.2 m.2 λk=>?_];let:=h k;rw[aV,aV] at this;constructor
   .intro q;rcases this.mp (.inr q) with r|r
    .subst r;exact absurd (j.1 _ q) á
    .exact r
   .intro q;rcases this.mpr (.inr q) with r|r
    .subst r;exact absurd (m.1 _ q) á
    .exact r
def agv{ns ms:LI}{es:LN}(j:ms.Pairwise (· <= ·))(h2:∀k,(dist ns).any (· ==k)=true↔k∈ms)(O:ms.L=(dist ns).L)(m:es.Pairwise (· < ·))(z:∀k:Int,k∈ns↔ ∃e∈es,k=((e:Nat):Int)):ms=es.M λ(e:Nat)=>(e:Int):=by
 let F:(dist ns).Perm ms:=ags _ _ (Ub _ _) (λx J=>(h2 x).mp (pX.mpr ⟨x,J,by simp⟩)) á;let hd:ms.Nodup:=F.nodup_iff.mp (Ub _ _);apply agu ?_ ?_ λk=>?_
 .exact(j.and hd).imp λ⟨a,b⟩=>by omega
 .rw[Iz];exact m.imp λh=>by omega
 .rw[<-h2 k,agt,z k,b9];exact(λ⟨e,a,b⟩=>⟨e,a,b.symm⟩,λ⟨e,a,b⟩=>⟨e,a,b.symm⟩)
end L2
namespace L2
open PySem PySem.Spec PyProof.Rows
def Ae(i j:Int):Int:=if j>i then j else i
def agw(hc:X.calm=true):j5 X (.builtin "max") (λxs H Q=>∃i j k,xs=[.int i,.int j,.int k]/\Q (.int (Ae (Ae i j) k)) H):=by
 intro pins s σ H xs W Q I r h;let(i,j,k,rfl,q):=h;cases r with
 |cons z r=>cases r with
  |cons F r=>cases r with
   |cons J r=>
    cases r;let(O,rfl):=z;let(t2,rfl):=F;let(U,rfl):=J;apply max_three_ints Ā λh' tk kp=>⟨_,H,I.kept kp,?_,q⟩;ext Ae;by_cases m:j>i
    .rw[af m,af m];by_cases h2:k>j
     .rw[af h2,af h2];exact(_,Á)
     .rw[ag h2,ag h2];exact(_,Á)
    .rw[ag m,ag m];by_cases h2:k>i
     .rw[af h2,af h2];exact(_,Á)
     .rw[ag h2,ag h2];exact(_,Á)
end L2
namespace L2
open PySem PySem.Spec PyProof.Rows
open PySem.W (WData Codec OpenSpec Well WellAll ReadsW ReadsAllW)
mutual
inductive Dw(K:FR)(H:Hp):V->WData->Prop
 |aK:Dw K H .aK .none
 |bl (b:Bool):Dw K H (.bl b) (.bool b)
 |int (i:Int):Dw K H Ãd Ãd
 |str (x:Str):Dw K H Çk Çk
 |jr (b:Array UInt8):Dw K H (.jr b) (.bytes b.toList)
 |lst {a:Addr} {xs:ay} {ds:List WData}:ã a xs->mU K H xs ds->Dw K H ā (.list ds)
 |tup {a:Addr} {xs:ay} {ds:List WData}:ŭ a xs->mU K H xs ds->Dw K H ā (.tuple ds)
inductive mU(K:FR)(H:Hp):ay->List WData->Prop
 |nil:mU K H [] []
 |cons {v:V} {vs:ay} {d:WData} {ds:List WData}:Dw K H v d->mU K H vs ds->mU K H (v::vs) (d::ds)
end
theorem Uc{K:FR}{H:Hp}:∀ns:LI,mU K H Ŀ (ns.M WData.int):=by
 intro ns;induction ns with
 |nil=>exact .nil
 |cons n r j=>
  exact .cons (.int n) j
theorem Kg{K:FR}{H:Hp}(ns:LI):∀(xs:ay),mU K H xs (ns.M WData.int)->xs=ns.M V.int:=by
 induction ns with
 |nil=>
  intro xs h;cases h;rfl
 |cons n r m=>
  intro xs h;cases h with
  |cons j h2=>
   cases j;rw[m _ h2] <;> rfl
section
variable{P:Pg}{w:Wd}{K:FR}{H:Hp}{h:Heap}{R:PySem.W.WRecords}{cl:Str->OA}
def agx{a:Addr}{xs:ay}(ax:Ħ h)(z:K.In h)(q:ã a xs):∃(j:LV)(o:Obj)(n:Nat),a9 xs j/\h.I a=Α o/\o.cls=.type "list"/\o.data=.seq j.toArray n:=by
 rcases q with q|⟨o,j,n,e,hc,_,hd,_,m⟩
 .let(_,j,n,m,e):=(q.ok ax);symm
 .exact(j.toList,o,n,m,z _ _ e,hc,by simp[hd])
def agy{a:Addr}{xs:ay}(ax:Ħ h)(z:K.In h)(q:ŭ a xs):∃(j:LV)(o:Obj)(n:Nat),a9 xs j/\h.I a=Α o/\o.cls=.type "tuple"/\o.data=.seq j.toArray n:=by
 rcases q with q|⟨o,j,n,e,hc,hd,_,m⟩
 .let(_,j,m,o,e,hc,n,hd):=(q.ok ax);symm
 .exact(j.toList,o,n,m,z _ _ e,hc,by simp[hd])
def Dw.reads(ax:Ħ h)(J:K.In h)(d:WData)(v:V)(u:Value)(x:Dw K H v d):RelV v u->∃as,ReadsW R cl h u d as:=
 Dw.rec (motive_1:=λv d _=>∀u,RelV v u->∃as,ReadsW R cl h u d as) (motive_2:=λvs O _=>∀U,a9 vs U->∃as,ReadsAllW R cl h U O as)
  (λu r=>by cases r;exact(_,ReadsW.none)) (λb u r=>by cases r;exact(_,ReadsW.bool b)) (λi u r=>by let(t,rfl):=r;exact(_,ReadsW.int i t)) (λx u r=>by let(t,rfl):=r;exact(_,ReadsW.str x t))
  (λb u r=>by let(t,rfl):=r;exact(_,ReadsW.bytes _ t))
  (λhs _ z u r=>by
   cases r;let(j,o,n,F,m,hc,hd):=agx ax J hs;let(as,hr):=z j F;exact(_,ReadsW.list m hc hd hr))
  (λhs _ z u r=>by
   cases r;let(j,o,n,F,m,hc,hd):=agy ax J hs;let(as,hr):=z j F;exact(_,ReadsW.tuple m hc hd hr))
  (λU r=>by cases r;exact(_,ReadsAllW.nil))
  (λ_ _ W Y U r=>by
   cases r with
   |cons r1 r2=>
    let(as,Z):=W _ r1;let(bs,q2):=Y _ r2;exact(_,ReadsAllW.cons Z q2)) x u
end
mutual
def rR:WData->Bool
 |.none=>true
 |.bool _=>true
 |.int _=>true
 |.str _=>true
 |.bytes _=>true
 |.list xs=>qt xs
 |.tuple xs=>qt xs
 |_=>false
def qt:List WData->Bool
 |[]=>true
 |x::r=>rR x&&qt r
end
theorem agz{α:Type}{f:α->WData}(h:∀a,rR (f a)=true):∀l:List α,qt (l.M f)=true:=by
 intro l;induction l with
 |nil=>exact Á
 |cons x r j=>
  show(rR (f x)&&qt (r.M f))=true;rw[h x,j] <;> rfl
theorem wJ:∀(c:Codec)(a:c.denote),rR (c.enc a)=true
 |.unit,_=>rfl
 |.bool,_=>rfl
 |.int _ _,_=>rfl
 |.nat _ _,_=>rfl
 |.u8,_=>rfl
 |.bytes _ _,_=>rfl
 |.text _ _ _ _,_=>rfl
 |.list _ _ c,a=>agz (λx=>wJ c x) a
 |.pair c d,a=>by
  show(rR (c.enc a.1)&&(rR (d.enc a.2)&&true))=true;rw[wJ c a.1,wJ d a.2] <;> rfl
 |.triple c d e,a=>by
  show(rR (c.enc a.1)&&(rR (d.enc a.2.1)&&(rR (e.enc a.2.2)&&true)))=true;rw[wJ c a.1,wJ d a.2.1,wJ e a.2.2] <;> rfl
 |.option c,none=>rfl
 |.option c,some x=>wJ c x
theorem agA(cs:List Codec):∀(a:Codec.denoteAll cs),qt (Codec.encAll cs a)=true:=by
 induction cs with
 |nil=>exact @λ_=>Á
 |cons c cs j=>
  intro a;show(rR (c.enc a.1)&&qt (Codec.encAll cs a.2))=true;rw[wJ c a.1,j a.2] <;> rfl
theorem Ud{xs:List WData}:∀{d:WData},d∈xs->d.weight<=WData.weightAll xs:=by
 induction xs with
 |nil=>exact @λd h=>absurd h Ä
 |cons x r j=>
  intro d h;show d.weight<=x.weight+1+WData.weightAll r;rcases aV.mp h with e|m
  .rw[e];lia
  .let z:=j m;lia
def toV:Value->V
 |.none=>.aK
 |.bool b=>.bl b
 |.int i _=>.int i
 |.str x _=>.str x
 |.bytes b _=>.jr b
 |.ref a=>.ref a
 |_=>.aK
def jL(A:LA):Value->Prop
 |.none=>True
 |.bool _=>True
 |.int _ _=>True
 |.str _ _=>True
 |.bytes _ _=>True
 |.ref a=>a∈A
 |_=>False
theorem jL.mono{A B:LA}(h:∀a∈A,a∈B):∀{u:Value},jL A u->jL B u:=λ{u}x=>by
 cases u with
 |ref a=>exact h a x
 |none=>trivial
 |bool b=>trivial
 |int i t=>trivial
 |str s t=>trivial
 |bytes b t=>trivial
 |_=>exact False.elim x
theorem agB{A:LA}{u:Value}(x:jL A u):RelV (toV u) u:=by
 cases u with
 |ref a=>rfl
 |none=>rfl
 |bool b=>rfl
 |int i t=>exact(t,Á)
 |str s t=>exact(t,Á)
 |bytes b t=>exact(t,Á)
 |_=>exact False.elim x
theorem CA{A:LA}{vs:LV}:(∀u∈vs,jL A u)->a9 ź vs:=by
 induction vs with
 |nil=>exact @λ_=>.nil
 |cons u r m=>
  intro h;exact .cons (agB (h u (gn ..))) (m λx j=>h x (aQ _ j))
def pb(h:Heap)(A:LA)(a:Addr):Prop:=∃vs:LV,vs.L<=sizeLine/\(∀u∈vs,jL A u)/\
 (h.I a=Α {cls:=.type "list",data:=.seq vs.toArray}\/h.I a=Α {cls:=.type "tuple",data:=.seq vs.toArray})
def pb.mono{h:Heap}{A B:LA}{a:Addr}(k:∀a∈A,a∈B)(x:pb h A a):pb h B a:=by
 let(vs,j,h2,m):=x;exact(vs,j,λu z=>(h2 u z).mono k,m)
theorem Kh{P:Params}{h:Heap}{vs:LV}:∀{j:List WData},WellAll P h vs j->vs.L=j.L:=by
 induction vs with
 |nil=>intro j h;cases h;rfl
 |cons v vs m=>
  intro j h;cases h with
  |cons _ b=>
   show _+1=_+1;rw[m b]
theorem Ue{P:Params}{h:Heap}{v:Value}{j:List WData}(x:Well P h v (.list j)):∃(a:Addr)(vs:LV),v=.ref a/\h.I a=Α {cls:=.type "list",data:=.seq vs.toArray}/\WellAll P h vs j:=by
 cases x with
 |list m J=>symm
theorem Ug{P:Params}{h:Heap}{v:Value}{j:List WData}(x:Well P h v (.tuple j)):∃(a:Addr)(vs:LV),v=.ref a/\h.I a=Α {cls:=.type "tuple",data:=.seq vs.toArray}/\WellAll P h vs j:=by
 cases x with
 |tuple m J=>symm
theorem Uh{P:Params}{h:Heap}{U:LV}{d:WData}{j:List WData}(x:WellAll P h U (d::j)):∃(v:Value)(vs:LV),U=v::vs/\Well P h v d/\WellAll P h vs j:=by
 cases x with
 |cons a b=>grind
def agC{n:Nat}(h:n<=1048576):n<=sizeLine:=gS h Ù
section
variable{P:Params}{h:Heap}
def Ui{M:WData->Prop}(n:M .none)(b:∀b,M (.bool b))(i:∀i,M Ãd)(s:∀s,M (.str s))(y:∀b,M (.bytes b))(l:∀xs,(∀d∈xs,M d)->M (.list xs))(t:∀xs,(∀d∈xs,M d)->M (.tuple xs)):∀j,qt j=true->∀d∈j,M d:=
 WData.rec_1 (motive_1:=λd=>rR d=true->M d) (motive_2:=λj=>qt j=true->∀d∈j,M d) (motive_3:=λ_=>True) (motive_4:=λ_=>True) (motive_5:=λ_=>True) (motive_6:=λ_=>True)
  (λ_=>n) (λx _=>b x) (λx _=>i x) (λx _=>s x) (λxs z p=>l xs (z p)) (λxs z p=>t xs (z p)) Àj (λ_ p=>Bool.noConfusion p) (λx _=>y x) (λ_ p=>Bool.noConfusion p) Àj Àj (λ_ _ _ p=>Bool.noConfusion p)
  (λ_ d m=>by cases m) (λx xs F J p d m=>by
   let q:=vO.mp p;cases m with
   |head=>exact F q.1
   |tail _ m=>exact J q.2 d m) trivial Ãn trivial Ãn Ãn (λ_ _ _=>trivial)
theorem Ki:∀j:List WData,(∀d∈j,∀v,Well P h v d->d.weight<=1048576->∃A:LA,jL A v/\∀a∈A,pb h A a)->∀vs:LV,WellAll P h vs j->(∀d∈j,d.weight<=1048576)->∃A:LA,(∀u∈vs,jL A u)/\∀a∈A,pb h A a:=by
 intro j;induction j with
 |nil=>
  intro _ vs x _;cases x;exact([],λu m=>absurd m Ä,λa m=>absurd m Ä)
 |cons d j ih=>
  intro one vs x z;let(v,vs,rfl,x1,x2):=Uh x;let(A,O,U):=one d gn v x1 (z d gn);let(B,W,Y):=ih (λe J=>one e (aQ _ J)) vs x2 λe J=>z e (aQ _ J);let kA:∀b∈A,b∈A++B:=λb F=>gM.mpr (.inl F);let kB:∀b∈B,b∈A++B:=λb F=>gM.mpr (.inr F);apply(A++B,λu Z=>?_,λb F=>?_)
  .rcases aV.mp Z with e|m
   .rw[e];exact O.mono kA
   .exact(W u m).mono kB
  .rcases gM.mp F with m|m
   .exact(U b m).mono kA
   .exact(Y b m).mono kB
def agD(j:List WData)(vs:LV)(x:WellAll P h vs j)(p:qt j=true)(z:∀d∈j,d.weight<=1048576):∃A:LA,(∀u∈vs,jL A u)/\∀a∈A,pb h A a:=by
 let O:∀v,jL [] v->∃A:LA,jL A v/\∀a∈A,pb h A a:=λv o=>⟨[],o,λa m=>absurd m Ä⟩;let sq:∀(a:Addr)(vs:LV)(j:List WData),vs.L=j.L->WData.weightAll j<=1048576->(h.I a=Α {cls:=.type "list",data:=.seq vs.toArray}\/h.I a=Α {cls:=.type "tuple",data:=.seq vs.toArray})->(∃A:LA,(∀u∈vs,jL A u)/\∀a∈A,pb h A a)->∃A:LA,jL A ā/\∀a∈A,pb h A a:=by
  intro a vs j e z F h0;let(A,h1,h2):=h0;let k:∀b∈A,b∈a::A:=λb U=>aQ _ U;apply(a::A,gn ..,λb U=>?_);rcases aV.mp U with e1|m
  .rw[e1];exact(vs,agC (by rw[e];exact gS (PySem.W.length_le_weightAllW j) z),λu hu=>(h1 u hu).mono k,F)
  .exact(h2 b m).mono k
 apply Ki j (Ui (λv x _=>?_) Ãj Ãj Ãj Ãj (λxs Y v x z=>?_) (λxs Y v x z=>?_) j p) vs x z
 .cases x;exact O _ trivial
 .cases x;exact O _ trivial
 .cases x;exact O _ trivial
 .cases x;exact O _ trivial
 .cases x;exact O _ trivial
 .let(a,vs,rfl,F,J):=Ue x;let Z:=z;exact sq a vs xs (Kh J) Z (.inl F) (Ki xs Y vs J λd hd=>gS (Ud hd) Z)
 .let(a,vs,rfl,F,J):=Ug x;let Z:=z;exact sq a vs xs (Kh J) Z (.inr F) (Ki xs Y vs J λd hd=>gS (Ud hd) Z)
end
def FH(o:Obj):Option HO:=match o.data with
 |.seq vs _=>if (o.cls==Value.type "list")=true then some (.cI o (.lst (vs.toList.M toV))) else some (.cI o (.tup (vs.toList.M toV)))
 |_=>none
def jg(K:FR)(h:Heap)(A:LA):Hp:=λb=>if b∈A then (if (K.Q b).isNone=true then (h.I b).bind FH else none) else none
def Uj(vs:LV):FH {cls:=.type "list",data:=.seq vs.toArray}=Α (.cI {cls:=.type "list",data:=.seq vs.toArray} (.lst ź)):=by
 rfl
def Uk(vs:LV):FH {cls:=.type "tuple",data:=.seq vs.toArray}=Α (.cI {cls:=.type "tuple",data:=.seq vs.toArray} (.tup ź)):=by
 rfl
section
variable{P:Pg}{w:Wd}{K:FR}{h:Heap}{A:LA}
def FI{b:Addr}{o:Obj}(j:b∈A)(hk:K.Q b=Β)(e:h.I b=Α o):jg K h A b=FH o:=by
 ext jg;grind
def agE{b:Addr}{u:HO}(q:jg K h A b=Α u):b∈A/\K.Q b=Β:=by
 delta jg at q;by_cases j:b∈A
 .rw[af j] at q;cases hk:K.Q b with
  |none=>symm
  |some o=>
   symm
 .symm
def FJ(m:∀a∈A,pb h A a){b:Addr}{u:HO}(q:jg K h A b=Α u):K.Q b=Β/\∃vs:LV,vs.L<=sizeLine/\(∀u∈vs,jL A u)/\
  ((h.I b=Α {cls:=.type "list",data:=.seq vs.toArray}/\u=.cI {cls:=.type "list",data:=.seq vs.toArray} (.lst ź))\/
   (h.I b=Α {cls:=.type "tuple",data:=.seq vs.toArray}/\u=.cI {cls:=.type "tuple",data:=.seq vs.toArray} (.tup ź))):=by
 let(j,hk):=agE q;let(vs,z,h2,F):=m b j;apply(hk,vs,z,h2,?_);rcases F with e|e
 .rw[FI j hk e,Uj] at q;exact .inl ⟨e,(aO q).symm⟩
 .rw[FI j hk e,Uk] at q;exact .inr ⟨e,(aO q).symm⟩
def agF(z:K.In h)(F:∀a∈A,pb h A a){a:Addr}{vs:LV}(m:a∈A)(e:h.I a=Α {cls:=.type "list",data:=.seq vs.toArray}):(∀u∈vs,jL A u)/\aa K (jg K h A) a ź:=by
 let(U,O,h2,W):=F a m;let J:U=vs:=by
  symm
 subst J;apply(h2,?_);cases hk:K.Q a with
 |none=>exact .inl (.inr ⟨_,by rw[FI m hk e,Uj]⟩)
 |some o=>
  let j:=z a o hk;rw[e] at j;obtain rfl:=aO j;exact .inr ⟨_,U.toArray,_,hk,Á,Á,Á,by assumption,by simpa using CA h2⟩
def agG(z:K.In h)(F:∀a∈A,pb h A a){a:Addr}{vs:LV}(m:a∈A)(e:h.I a=Α {cls:=.type "tuple",data:=.seq vs.toArray}):(∀u∈vs,jL A u)/\bz K (jg K h A) a ź:=by
 let(U,O,h2,W):=F a m;let J:U=vs:=by
  symm
 subst J;apply(h2,?_);cases hk:K.Q a with
 |none=>exact .inl (.inr ⟨_,by rw[FI m hk e,Uk]⟩)
 |some o=>
  let j:=z a o hk;rw[e] at j;obtain rfl:=aO j;exact .inr ⟨_,U.toArray,_,hk,Á,Á,by assumption,by simpa using CA h2⟩
theorem Kj{z:Params}{B:Hp}:∀j:List WData,(∀d∈j,∀v,Well z h v d->jL A v->Dw K B (toV v) d)->∀vs:LV,WellAll z h vs j->(∀u∈vs,jL A u)->mU K B ź j:=by
 intro j;induction j with
 |nil=>
  intro _ vs x _;cases x;exact .nil
 |cons d j O=>
  intro one vs x F;let(v,vs,rfl,U,W):=Uh x;exact .cons (one d gn v U (F _ gn)) (O (λe J=>one e (aQ _ J)) vs W λu m=>F u (aQ _ m))
def agH{Y:Params}(U:K.In h)(W:∀a∈A,pb h A a)(j:List WData)(vs:LV)(x:WellAll Y h vs j)(p:qt j=true)(m:∀u∈vs,jL A u):mU K (jg K h A) ź j:=by
 apply Kj j (Ui (λv x _=>?_) (λb v x _=>?_) (λi v x _=>?_) (λs v x _=>?_) (λb v x _=>?_) (λxs J v x m=>?_) (λxs J v x m=>?_) j p) vs x m
 .cases x;exact .aK
 .cases x;exact .bl b
 .cases x;exact .int i
 .cases x;exact .str s
 .cases x;let z:=Dw.jr (K:=K) (H:=jg K h A) b.toArray;exact z
 .let(a,vs,rfl,F,O):=Ue x;let(h2,hs):=agF U W m F;exact .lst hs (Kj xs J _ O h2)
 .let(a,vs,rfl,F,O):=Ug x;let(h2,hs):=agG U W m F;exact .tup hs (Kj xs J _ O h2)
end
def agI{j:List WData}(h:WData.layableAll j=true):∀d∈j,d.weight<=1048576:=λd hd=>
 (PySem.W.layableW_iff.mp (lV.mp h d hd)).2.2
theorem agJ(cs:List Codec):∀(a:Codec.denoteAll cs),(Codec.encAll cs a).L=cs.L:=by
 induction cs with
 |nil=>exact @λ_=>Á
 |cons c cs j=>
  intro a;show(Codec.encAll cs a.2).L+1=cs.L+1;rw[j a.2]
section
variable{K:FR}{H H':Hp}
def agK(s:ai H H')(h:ŭ a xs):bz K H' a xs:=by
 rcases h with (h|⟨o,h⟩)|h
 .exact .inl (.inl (s _ _ h))
 .exact .inl (.inr ⟨o,s _ _ h⟩)
 .exact .inr h
def agL(s:ai H H')(j:List WData)(vs:ay)(x:mU K H vs j):mU K H' vs j:=
 mU.rec (motive_1:=λv d _=>Dw K H' v d) (motive_2:=λvs j _=>mU K H' vs j) .aK .bl .int .str .jr (λh _ r=>.lst (s.seq h) r) (λh _ r=>.tup (agK s h) r) .nil (λ_ _ h r=>.cons h r) x
end
def agM{P:Pg}{w:Wd}{K:FR}{mg mb:MG}{CX:nQ}{k:Nat}{fa:Addr}{fd:FD}{ps:LS}{sp:Sp}{s₁:Sh}{U:LV}{J:List WData}{R:PySem.W.WRecords}{cl:Str->OA}{d0:WData}{c T:Addr}(KX:K.In s₁.H) (oQ:s₁.H.Ns mainGlobals mg) (O:s₁.H.Ns builtinsNs mb) (hbb:∀x:Str,x≠"__name__"->mb x=bootBuiltins x) (agO:s₁.H.NoLimit) (hg:s₁.gens= #[])(CC:WellAll w.params s₁.H U J) (dg:qt J=true) (hwt:∀d∈J,d.weight<=1048576) (hr:dJ k callerA) (hT:s₁.H.TableAt c T #[]) (Ul:K.Q T=Β) (wK:yj mg s₁.H)(F:∀base:Heap,K.In base->base.Ns mainGlobals mg->yj mg base->Ì CX k fa fd ps sp) (Kd:∀(s:Sh)(us:LV),us.L=ps.L->BindsTo s fd ⟨us,[]⟩ Àq) (cE:J.L=ps.L)(i9:∀(H:Hp)(xs:ay),H T=Α (.gU #[])->mU K H xs J->sp xs H (λv H'=>Dw K H' v d0) λ_ _ _=>False)(Kk:∀H e s',CX [] H s₁ (λ_ _ _=>False) e s'->False):
  codeAny Àr callerA (.call (.ref fa) ⟨U,[]⟩) (λr s'=>∃u as,r=.ok (.ret u)/\ReadsW R cl s'.H u d0 as/\OldK s₁.H s'.H/\s'.os=s₁.os/\AllBare s'.gens) s₁:=by
 let(A,ho,Y):=agD J U CC dg hwt;let Kl:s₁.U T=Α {cls:=.none,data:=.fields #[]}:=hT.2;let uS:∀{b:Addr}{o:Obj},s₁.U b=Α o->(∀vs n,o.data≠ .seq vs n)->ĥ A b=Β:=λ{b o}e d=>by
  cases q:ĥ A b with
  |none=>rfl
  |some u=>
   obtain⟨_,vs,_,_,⟨e2,_⟩|⟨e2,_⟩⟩:=FJ Y q
   .grind
   .grind
 let aT:=uS Kl λvs n z=>by cases z
 let sm:ai (ĥ A) (upd (ĥ A) T (.gU #[])):=λb o e=>by
  rw[ao (eO e aT)];exact e
 let hS:=agL sm _ _ (agH KX Y J U CC dg ho);let hV:=CA ho;let Z:upd (ĥ A) T (.gU #[]) T=Α (.gU #[]):=aq;let hN:∀b,b≠T->upd (ĥ A) T (.gU #[]) b=jg K s₁.H A b:=λb O=>ao O;let hO:∀b u,b≠T->upd (ĥ A) T (.gU #[]) b=Α u->∃o u',u=.cI o u':=λb u O e=>by
  rw[hN b O] at e;obtain⟨_,vs,_,_,⟨_,e⟩|⟨_,e⟩⟩:=FJ Y e
  .symm
  .symm
 let ax:dY P w (upd (ĥ A) T (.gU #[])) s₁.H:=λb u q=>by
  by_cases j:b=T
  .subst j;rw[Z] at q;cases q;exact Kl
  .rw[hN b j] at q;obtain⟨_,vs,h1,h2,⟨e,rfl⟩|⟨e,rfl⟩⟩:=FJ Y q
   .exact(e,by simp_all,vs,_,CA h2,e)
   .exact(e,by simp_all,vs,CA h2,_,e,rfl,_,rfl)
 let hK:∀b u,upd (ĥ A) T (.gU #[]) b=Α u->K.Q b=Β:=λb u q=>by
  by_cases j:b=T
  .grind
  .rw[hN b j] at q;exact(FJ Y q).1
 let Km:∀{b:Addr}{o:Obj},s₁.U b=Α o->(∀vs n,o.data≠ .seq vs n)->(∀vs,o.data≠ .fields vs)->upd (ĥ A) T (.gU #[]) b=Β:=λ{b o}e d1 d2=>by
  grind
 generalize upd (ĥ A) T (.gU #[])=H at hS Z hO ax hK Km;let Ko:∀{b:Addr}{o:Obj},s₁.U b=Α o->H b=Β->(uO s₁.H H).I b=Α o:=λe n=>aaU e n;let FL:∀{b:Addr}{m:MG},s₁.H.Ns b m->(uO s₁.H H).Ns b m:=λ{b m} ⟨o,es,ep,e,d,r⟩=>⟨o,es,ep,Ko e (Km e (λvs n z=>by simp_all) λvs z=>by simp_all),d,r⟩;let nK:∀b o,K.Q b=Α o->H b=Β:=λb o e=>by
  cases q:H b with
  |none=>rfl
  |some u=>
   grind
 let Um:=λb o e=>Ko (KX b o e) (nK b o e);let hM:Mod K mg Æo:=⟨Um,FL oQ,⟨mb,FL O,hbb⟩,let ⟨mc,h1,h2⟩:=agO;⟨mc,FL h1,h2⟩⟩;let hBm:yj mg Æo:=by
  let(bm,ob,b1,b2,b3,b4,b5,b6):=wK;exact(bm,ob,b1,b2,Ko b3 (Km b3 (λvs n z=>by simp_all) λvs z=>by simp_all),b4,b5,b6)
 let e0:oX P w K mg Æo callerA [] s₁ H:=⟨rfl,hM,λb o e=>aaV e,Bf (aaT _ _),trivial,λb O=>absurd (show b∈([]:LA) from O) Ä,ax,.of_eq hg⟩;let hl:U.L=ps.L:=by rw[Kh CC];exact cE
 apply qR ((F _ Um (FL oQ) hBm).run callerA [] s₁ H ⟨U,[]⟩ U (U.M toV) _ _ hr e0 (Kd s₁ U hl) hV (i9 H _ Z hS)) λr s' x=>?_;cases r with
 |error e=>exact(Kk H e s' x).elim
 |ok fl=>
  cases fl with
  |next=>exact False.elim x
  |brk=>exact False.elim x
  |cont=>exact False.elim x
  |ret u=>
   let(v,H',os,bare,un,Kq,r',q):=x;let kept:=λb o j e=>by
    cases q2:H b with
    |none=>exact un.keep b o e q2 (by intro z;exact absurd (show b∈([]:LA) from z) Ä) Ä
    |some u2=>
     let(ob,u3,rfl):=hO b u2 j q2;let z2:=un.nI b ob _ q2;let(e1,_):=ax b _ q2;let(e2,_):=Kq b _ z2;symm
   let KX':=λb o e=>kept b o ì (KX b o e);let(as,Uo):=Dw.reads (R:=R) (cl:=cl) Kq KX' d0 v u q r';let(jm,e1):=un.pZ T #[] Z;let e2:s'.U T=Α {cls:=.none,data:=.fields (#[]++jm)}:=Kq T _ e1;apply(u,as,Á,Uo,⟨λb o e=>?_,λb o e=>?_⟩,os,bare)
   .by_cases j:b=T
    .subst j;rw[Kl] at e;cases e;exact .inr (.inl ⟨hT.isCodeTable,Á,#[],jm,Á,e2⟩)
    .exact .inl (kept b o j e)
   .grind
def agS{r:OpenSpec}{k:Nat}{q:Pg}{loose:LS}{XP:MG->Heap->Prop}{YP:Wd->Heap->Prop}{d:DefRec}{K:Params->FR}{CX:nQ}{ps:LS}{sp:FR->Addr->Sp}(J:r.wellSaid=true) (Kr:d.params.defaults=[]) (cE:r.args.L=ps.L) (hr:dJ k callerA)(hY:∀(w:Wd)(h:Heap),YP w h->(K w.params).In h) (Ka:((recsOf q).any λd'=>d'.name==d.name)=true)(F:∀(w:Wd)(mg:MG)(j:Addr)(h:Heap),YP w h->(K w.params).In h->h.Ns mainGlobals mg->mg d.name=Α (.ref j)->
   ∃(fd:FD)(o:Obj)(c T:Addr),(K w.params).Q j=Α o/\o.data=.func fd/\fd.code=.ref c/\Cp Çg c T/\(K w.params).Q T=Β/\(∀(s:Sh)(us:LV),us.L=ps.L->BindsTo s fd ⟨us,[]⟩ Àq)/\
    ∀base:Heap,(K w.params).In base->base.Ns mainGlobals mg->yj mg base->ba r.prog w Çg mg base CX k j fd ps (sp Çg T))
  (i9:∀(K:FR)(T:Addr)(H:Hp)(xs:ay)(a:Codec.denoteAll r.args),H T=Α (.gU #[])->Codec.withinAll r.args a=true->Codec.app r.args r.asked a=true->mU K H xs (Codec.encAll r.args a)->
   sp K T xs H (λv H'=>Dw K H' v (r.ret.enc (Codec.app r.args r.f a))) λ_ _ _=>False)
  (Kk:∀(H:Hp)(s:Sh)(e:Value)(s':Sh),CX [] H s (λ_ _ _=>False) e s'->False):
  PySem.W.WalkOS q loose XP YP r d [] (λf vs=>PySem.call f vs):=by
 intro w ib s₁ mg mb G Y j o pm cd i3 dV kV ho hd ly hD FM hg args ux as Up O Uo CC hlo;let(a,e1,e2):=PySem.W.os_pre_some Up;let(e3,uV):=Codec.encAll_of_decAll r.args args a e1;subst e3;let m:=hY w _ Y;let(fd,o',c,T,k1,k2,k3,hC,Ul,hb,hF):=F w mg j _ Y m G.T.g FM;let(d',qd,hn):=pX.mp Ka;let hn:=vK.mp hn;let(a',o2,fd',c',P',t1,t2,t3,t4,t5,t6):=G.T.tab d' qd;rw[hn,FM] at t1;cases t1;rw[m _ _ k1] at t2;cases t2;rw[k2] at t3;cases t3;rw[k3] at t4;cases t4;let Z:P'=T:=by
  let((ob,vs,f1,f2,f3,f4),_):=t6;let(ob2,vs2,_,_,_,_,_,_,_,g1,g2,g3,g4,_):=hC _ m;symm
 subst Z;refine PySem.W.enter_call (qR (agM (R:=[]) (cl:=classAt ib.H) (d0:=r.ret.enc (Codec.app r.args r.f a)) m G.T.g G.T.b G.T.builtins G.T.nolimit hg CC (agA _ _) (agI O) hr t6 Ul G.T.bmain hF hb (by rw[agJ];exact cE)
  (λH xs hO hS=>i9 Çg P' H xs a hO uV e2 hS) λH e s'=>Kk H s₁ e s') λr' s' hq=>?_)
 let(u,U,rfl,h1,h2,h3,h4):=hq;exact(.inl ⟨u,_,U,Á,λ_=>Á,h1,(OpenSpec.post_iff J uV _ _).mpr Á,λz=>Bool.noConfusion z⟩,h2,h3,h4)
def Uq{K:FR}{c T:Addr}{od:OA}{sl:AO}{Y v1 Z v3 v4 v5 v6 v8 yo j m F J O:Value}{fl W:Int}{U tt:Tok}{b:Bool}{x:Str}{ts:Tok}(l:K.Q c=Α ⟨.type "code",od,.fields #[Y,v1,Z,v3,v4,v5,v6,.int fl U,v8,.bool b,.int W tt,.ref T,yo,j,m,F,J,O,.str x ts],sl⟩) (ne:(c==T)=false):Cp K c T:=λh X=>
 ⟨_,_,_,_,_,_,_,_,_,X _ _ l,rfl,rfl,rfl,rfl,rfl,rfl,rfl,rfl,λz=>by rw[z] at ne;simp at ne⟩
end L2
namespace JM
open Flags
def aJ(m:Int):LI->dm
 |[]=>[[]]
 |x::r=>if x=m then []::aJ m r else match aJ m r with
  |[]=>[[x]]
  |w::l=>(x::w)::l
def wL(m:Int)(ps:dm)(x:Int):dm:=
 if x=m then ps++[[]] else ps.dropLast++[ps.getLastD []++[x]]
theorem l8(m:Int):∀l,aJ m l≠[]:=by
 intro l;induction l with
 |nil=>
  simp[aJ]
 |cons x r j=>
  ext aJ;split
  .simp
  .split <;> simp
def Kz(m x:Int)(w:LI)(l:dm)(h:l≠[]):wL m (w::l) x=w::wL m l x:=by
 ext wL;split
 .rfl
 .cases l with
  |nil=>symm
  |cons a l=>rfl
theorem agX(m x:Int):∀l,aJ m (l++[x])=wL m (aJ m l) x:=by
 intro l;induction l with
 |nil=>
  by_cases h:x=m <;> simp[aJ,wL,h]
 |cons y r j=>
  let j:=j;let z:=l8 m r;show aJ m (y::(r++[x]))=_;ext aJ;split
  .rw[j,Kz _ _ _ _ z]
  .rw[j];cases e:aJ m r with
   |nil=>exact absurd e z
   |cons w l=>
    cases l with
    |nil=>by_cases F:x=m <;> simp[wL,F]
    |cons a l=>
     rw[Kz m x w (a::l) Ä];rw[Kz m x (y::w) (a::l) Ä]
def lK:LI:=[48,49,50,51,52,53,54,55,56,57,97,98,99,100,101,102]
def qu:LI:=lK++[63]
def jM:LI:=[115,101,101,110]
def va:dm:=[[102,114,111,110,116],[98,101,104,105,110,100],[117,110,107,110,111,119,110]]
def iF:dm:=[[104,111,105,115,116],[104,111,105,115,116,32,97,98,111,118,101],[104,111,105,115,116,32,98,101,108,111,119],[104,111,105,115,116,32,97,98,111,118,101,32,98,101,108,111,119]]
def iG:dm:=[[115,113,117,97,114,101],[116,97,105,108,115],[108,111,110,103],[115,104,97,112,101,63]]
def B(n:Int):UInt8:=UInt8.ofNat n.toNat
def bf(l:LI):Prop:=∀x∈l,0<=x/\x<=255
def KA(h:0<=x/\x<=255):(B x).toNat=x.toNat:=by
 ext B;rw[UInt8.toNat_ofNat'];lia
def Ur(j:0<=x/\x<=255)(m:0<=y/\y<=255)(e:B x=B y):x=y:=by
 let:=cw UInt8.toNat e;rw[KA j,KA m] at this;grind
theorem wM:∀{a b:LI},bf a->bf b->a.M B=b.M B->a=b
 |[],[],_,_,_=>rfl
 |[],_::_,_,_,e=>by simp at e
 |_::_,[],_,_,e=>by simp at e
 |x::a,y::b,ha,hb,e=>by
  simp only[a8,List.cons.injEq] at e;rw[Ur (ha x gn) (hb y gn) e.1,wM (λz hz=>ha z (aQ _ hz)) (λz hz=>hb z (aQ _ hz)) e.2]
theorem yp(m:Int)(F:0<=m/\m<=255):∀l,bf l->cutAt (B m) Ľ=(aJ m l).M ê:=by
 intro l;induction l with
 |nil=>exact @λ_=>Á
 |cons x r j=>
  intro h;let J:=h x gn;let j:=j λz hz=>h z (aQ _ hz);show(if B x=B m then []::cutAt (B m) (r.M B) else match cutAt (B m) (r.M B) with
   |[]=>[[B x]]
   |w::l=>(B x::w)::l)=(aJ m (x::r)).M ê
  ext aJ;by_cases e:x=m
  .rw[af e,af (by rw[e]),j];rfl
  .rw[ag e,ag λq=>e (Ur J F q),j];cases aJ m r with
   |nil=>rfl
   |cons w l=>rfl
theorem qv(m:Int):∀{l},bf l->∀w∈aJ m l,bf w:=by
 intro l;induction l with
 |nil=>
  intro _ w j;simp[aJ] at j;subst j;intro z hz;cases hz
 |cons x r F=>
  intro h w j;let F:=F λz hz=>h z (aQ _ hz);delta aJ at j;split at j
  .rcases aV.mp j with rfl|j
   .intro z hz;cases hz
   .exact F w j
  .cases e:aJ m r with
   |nil=>exact absurd e (l8 m r)
   |cons a l=>
    rw[e] at j F;rcases aV.mp j with rfl|j
    .intro z hz;rcases aV.mp hz with rfl|hz
     .exact h _ gn
     .exact F a gn z hz
    .exact F w (aQ _ j)
theorem agY(m:Int){l:LI}:m∉l->aJ m l=[l]:=by
 induction l with
 |nil=>exact @λ_=>Á
 |cons x r z=>
  intro h;let j:¬x=m:=λe=>h (by rw[e];exact gn);let h2:=z λq=>h (aQ _ q);ext aJ;rw[ag j,h2]
theorem Us(m:Int)(r:LI){l:LI}:m∉l->aJ m (l++m::r)=l::aJ m r:=by
 induction l with
 |nil=>
  intro _;show aJ m (m::r)=_;ext aJ;rw[af rfl];split <;> rfl
 |cons x l z=>
  intro h;let j:¬x=m:=λe=>h (by rw[e];exact gn);let h2:=z λq=>h (aQ _ q);show(if x=m then []::aJ m (l++m::r) else match aJ m (l++m::r) with
   |[]=>[[x]]
   |w::l=>(x::w)::l)=_
  rw[ag j,h2]
def glue(m:Int):dm->LI
 |[]=>[]
 |[w]=>w
 |w::r=>w++m::glue m r
theorem agZ(m:Int)(w:LI)(h:r≠[]):glue m (w::r)=w++m::glue m r:=by
 cases r with
 |nil=>symm
 |cons a r=>rfl
theorem ag0(m:Int):∀l,glue m (aJ m l)=l:=by
 intro l;induction l with
 |nil=>exact Á
 |cons x r j=>
  let j:=j;let z:=l8 m r;ext aJ;split
  .rename_i e;rw[agZ m [] z,j,e];rfl
  .cases e:aJ m r with
   |nil=>exact absurd e z
   |cons w l=>
    rw[e] at j;cases l with
    |nil=>
     show x::w=x::r;rw[show w=r from j]
    |cons a l=>
     rw[<-j];rfl
def wN(c:LI):Bool:=c.L==16&&c.all lK.Y
def FO(h:l.all (λx=>decide (0<=x)&&decide (x<=255))=true):bf l:=λx j=>by
 symm
def ag1(h:0<=x/\x<=255):(hexValue (B x)).isSome=lK.Y x:=by
 let e:=(by decide+kernel:∀n<256,(hexValue (B (n:Nat))).isSome=lK.Y ((n:Nat):Int)) x.toNat Ô
 rwa [ar5 h.1] at e
theorem mapM_some(f:α->Option β):∀l:List α,(l.mapM f).isSome=l.all (λx=>(f x).isSome):=by
 intro l;induction l with
 |nil=>exact Á
 |cons x r j=>
  let j:=j;rw[IA,sC,<-j];cases f x with
  |none=>rfl
  |some y=>
   cases r.mapM f with
   |none=>rfl
   |some z=>rfl
def KB(h:bf l)(e:∀x,0<=x/\x<=255->f x=g x):l.all f=l.all g:=by
 rw[pW,lV,lV];exact(λq x j=>by rw[<-e x (h x j)];exact q x j,λq x j=>by rw[e x (h x j)];exact q x j)
def Ut(h:bf c):(lookIn Æd).isSome=wN c:=by
 ext lookIn wN;rw[az];by_cases e:c.L=16
 .rw[ag (λq=>q e),Ee,mapM_some,sD];rw[show c.all ((λx=>(hexValue x).isSome)∘B)=c.all lK.Y from KB h (λx j=>ag1 j),e];rfl
 .symm
def preOf(b:LI):LI:=jM++32::(b++[32])
def ag2{b:LI}(h:bf b):bf (preOf b):=λx j=>by
 delta preOf at j;rcases gM.mp j with q|q
 .exact FO (l:=jM) Ù x q
 .rcases aV.mp q with q|q
  .subst q;decide
  .rcases gM.mp q with q|q
   .exact h x q
   .let:x=32:=by simpa using q
    subst this;decide
def ag3(m:bf w)(Z:bf b):
  ((ascii "seen"++32::(b.M B++[32])).isPrefixOf Į &&(lookIn ((w.M B).drop (6+(b.M B).L))).isSome)=true↔ ∃c,w=jM++32::(b++32::c)/\wN c=true:=by
 let O:ascii "seen"++32::(b.M B++[32])=(preOf b).M B:=by
  ext preOf;rw[bZ,a8,bZ];rfl
 let el:(preOf b).L=6+b.L:=by
  ext preOf;rw[mq,df,mq];show 4+(b.L+1+1)=_;lia
 rw[O,jq,List.isPrefixOf_iff_prefix,az,<-Qy];constructor
 .rintro⟨⟨t,ht⟩,F⟩;let hd:bf (w.drop (6+b.L)):=λx j=>m x (Qs j);rw[Ut hd] at F;apply(w.drop (6+b.L),?_,F);let Y:(w.take (6+b.L)).M B=(preOf b).M B:=by
   let:=cw (List.take (6+b.L)) ht;rw[<-List.map_take] at this;grind
  let h2:=wM (λx j=>m x (IB j)) (ag2 Z) Y;let z:=Iw (6+b.L) w;rw[h2] at z;apply z.symm.R ?_;ext preOf;simp
 .rintro⟨c,rfl,hc⟩;let U:jM++32::(b++32::c)=preOf b++c:=by
   ext preOf;simp
  rw[U] at m⊢;let J:=λx j=>m x (uI _ j);let W:(preOf b++c).drop (6+b.L)=c:=by
   symm
  rw[W,Ut J];symm
def dZ(s:Nat):LI:=va.D s []
def Uu:∀s∈[0,1,2],sideWord s=(dZ s).M B/\bf (dZ s)/\va.Y (dZ s)=true:=by
 intro s hs;let:s=0\/s=1\/s=2:=À hs
 rcases this with rfl|rfl|rfl <;> exact(by decide,FO Ù,by decide)
def pS(l:Bytes)(s:Nat):Bool:=(ascii "seen"++32::(sideWord s++[32])).isPrefixOf l&&(lookIn (l.drop (6+(sideWord s).L))).isSome
def Uv(m:bf w)(hs:s∈[0,1,2]):pS Į s=true↔ ∃c,w=jM++32::(dZ s++32::c)/\wN c=true:=by
 let(e,j,_):=Uu s hs;ext pS;rw[e];exact ag3 m j
def Uw{w:LI}(z:bf w){l:dm}(m:∀x∈l,bf x):w.M B∈l.M ê↔w∈l:=by
 rw[b9];constructor
 .rintro⟨x,j,e⟩;rw[<-wM (m x j) z e];exact j
 .grind
def fH(l:Bytes):Option (Bool×Bool):=[(false,false),(true,false),(false,true),(true,true)].find? λ(x:Bool×Bool)=>(Glimpse.lines ⟨x.1,x.2,[]⟩).head?==Α l
def fF(l:Bytes):Option Nat:=[0,1,2,3].find? λ(s:Nat)=>shapeSeen s==l
def Ux(l:dm)(h:l.all (λw=>w.all (λx=>decide (0<=x)&&decide (x<=255)))=true):∀x∈l,bf x:=λx j=>FO (lV.mp h x j)
def ag4{w:LI}(z:bf w):(fH Į).isSome=iF.Y w:=by
 let e:iF.M ê=[(false,false),(true,false),(false,true),(true,true)].M (λ(x:Bool×Bool)=>((Glimpse.lines ⟨x.1,x.2,[]⟩).head?).D []):=by decide
 let m:∀x∈[(false,false),(true,false),(false,true),(true,true)],(Glimpse.lines ⟨x.1,x.2,[]⟩).head?=Α (((Glimpse.lines ⟨x.1,x.2,[]⟩).head?).D []):=by decide
 rw[pW];ext fH;rw[List.find?_isSome];rw[show(iF.Y w=true↔w∈iF) from by simp,<-Uw z (Ux iF Ù),e,b9];constructor
 .rintro⟨x,j,h⟩;apply(x,j,?_);rw[eq_of_beq h];rfl
 .rintro⟨x,j,h⟩;apply(x,j,?_);rw[m x j,h];exact ZQ _
def ag5{w:LI}(j:bf w):(fF Į).isSome=iG.Y w:=by
 let e:iG.M ê=[0,1,2,3].M shapeSeen:=by decide
 rw[pW];ext fF;rw[List.find?_isSome];rw[show(iG.Y w=true↔w∈iG) from by simp,<-Uw j (Ux iG Ù),e,b9];simp
def ag6(l:Bytes):plateLine l=match [0,1,2].find? (pS l) with
  |some s=>(lookIn (l.drop (6+(sideWord s).L))).M λ(x:Nat)=>.seen s x
  |none=>match fH l with
   |some x=>some (.hoist x.1 x.2)
   |none=>match fF l with
    |some s=>some (.flag s)
    |none=>if l.L=4 then (l.mapM cellIn).M .cells else none:=rfl
def KD{p:LI}(h:bf p):PlateNeutral.text? p=Α Ág:=by
 ext PlateNeutral.text?;rw[af ?_]
 .rfl
 .ext NeutralIO.bytes;rw[lV];intro x j;let:=h x j;symm
end JM
namespace HD
open PySem PySem.Spec PyProof.Rows L2
abbrev KF:Stmt:=top 6
abbrev KG:Stmt:=top 7
abbrev KH:Stmt:=top 15
abbrev KI:Stmt:=top 16
abbrev KJ:Stmt:=top 17
abbrev KL:Stmt:=top 18
abbrev KM:Stmt:=top 19
abbrev KN:Stmt:=top 20
abbrev KO:Stmt:=top 21
abbrev KP:Stmt:=top 22
abbrev ag7:Stmt:=inClass (top 33) 0
abbrev ag8:Stmt:=inClass (top 34) 0
abbrev KQ:Stmt:=top 35
abbrev KR:Stmt:=top 36
abbrev KS:Stmt:=top 37
abbrev KU:Stmt:=top 38
abbrev KW:Stmt:=top 39
abbrev KY:Stmt:=top 41
abbrev KZ:Stmt:=top 42
abbrev K0:Stmt:=top 43
abbrev K1:Stmt:=inClass (top 60) 0
abbrev ag9:Stmt:=inClass (top 61) 0
abbrev aha:Stmt:=inClass (top 62) 0
abbrev ahb:Stmt:=inClass (top 63) 0
abbrev K2:Stmt:=top 64
abbrev K3:Stmt:=top 65
abbrev K4:Stmt:=top 66
abbrev K5:Stmt:=top 67
abbrev K6:Stmt:=top 68
abbrev K7:Stmt:=top 69
abbrev K8:Stmt:=top 70
abbrev K9:Stmt:=top 71
abbrev La:Stmt:=top 72
abbrev Lb:Stmt:=top 74
abbrev ahc:Stmt:=inClass (top 75) 0
abbrev Lc:Stmt:=top 76
abbrev Ld:Stmt:=top 77
abbrev Le:Stmt:=top 78
abbrev Lf:Stmt:=top 79
abbrev Lg:Stmt:=top 80
abbrev Lh:Stmt:=top 81
abbrev Li:Stmt:=top 82
abbrev ahd:Stmt:=inClass (top 84) 0
abbrev Lj:Stmt:=top 85
abbrev Lk:Stmt:=top 86
abbrev Ll:Stmt:=top 87
abbrev Lm:Stmt:=top 88
abbrev Ln:Stmt:=top 89
abbrev Lo:Stmt:=top 90
abbrev Lp:Stmt:=top 91
abbrev Lq:Stmt:=top 92
abbrev Lr:Stmt:=top 93
abbrev Ls:Stmt:=top 94
abbrev Lu:Stmt:=top 95
abbrev ahe:Stmt:=inClass (top 103) 0
abbrev ahf:Stmt:=inClass (top 104) 0
abbrev Lv:Stmt:=top 105
abbrev Lw:Stmt:=top 106
abbrev Ly:Stmt:=top 107
abbrev Lz:Stmt:=top 108
abbrev LB:Stmt:=top 109
abbrev LC:Stmt:=top 110
abbrev LD:Stmt:=top 112
abbrev ahg:Stmt:=inClass (top 116) 0
abbrev LF:Stmt:=top 117
abbrev LG:Stmt:=top 118
abbrev LH:Stmt:=top 119
abbrev LJ:Stmt:=top 120
abbrev LK:Stmt:=top 121
abbrev ahh:Stmt:=inClass (top 123) 0
abbrev qw:Stmt:=top 124
abbrev LL:Stmt:=top 125
abbrev LM:Stmt:=top 126
abbrev LO:Stmt:=top 127
abbrev ahi:Str:="are_in_order_lockers"
end HD
namespace HD
open PySem PySem.Spec PyProof.Rows L2
open PySem.W (Codec)
def qx(H H':Hp)(p:Addr)(o:HO):Prop:=ai H H'/\H p=Β/\H' p=Α o
def aN{H:Hp}{p:Addr}{o:HO}(h:H p=Β):ai H (upd H p o):=λb u e=>by rw[ao (eO e h)];exact e
def fu{H H1:Hp}{p:Addr}{o:HO}(s:ai H H1)(h:H p=Β):ai H (upd H1 p o):=λb u e=>by rw[ao (eO e h)];exact s b u e
def codes(x:Str):LI:=x.cps.toList.M λn=>((n:Nat):Int)
abbrev iv(l:LI):ay:=l.M V.int
def Uy(l:LI)(z:Int):iv (l++[z])=iv l++[.int z]:=by
 simp
def eJ{A B:Hp->Prop}(h:A H):BV σ H (λb j=>if b=true then A j else B j):=by
 ext BV;symm
def take_snoc{α:Type}{l:List α}{i:Nat}{x:α}(h:l[i]? =Α x):l.take (i+1)=l.take i++[x]:=by
 rw[List.take_succ,h];rfl
def g9{n:Nat}(h:n<=1000000):n<sizeLine:=oN h (by rw[uF];decide)
inductive CD(vs:ay)(H:Hp)(Q:VK)(E':XK):Prop
 |mk (x:Str) (_:vs=[.str x]) (_:x.cps.u<=100000) (_:∀H' p,ϩ (.lst (iv Ũ))->Q ĝ H')
section
variable{P:Pg}{w:Wd}{K:FR}{mg:MG}{base:Heap}
def LP:bQ ["written","sign"] ["written"] (aY KH):=ï
def ahj{f:Addr}{fd:FD}(F:bx K "spelled" "spelled" KH f fd)(j:mg "ord"=Β):Ì aF 1 f fd ["written"] CD:=by
 refine F.ok LP Â;let(x,rfl,U,k):=h;refine⟨_,aE (a0 (eB (own:=[("sign",1)]) Á LP.nd (adJ Ú) Ê (λ_ _ _ _ _=>dy 1 LP.nd) Õ
  (λ_ _ _ _ _=>dc abB Ò j boot_ord Ŝ))),?_⟩
 apply(_,Á,x,Á,λD m=>aex (λi H'=>ai H H'/\H' D=Α (.lst (iv ((codes x).take i)))) ⟨aN m,aq⟩ (λi c H' hc ⟨z,hd⟩=>⟨Á,eJ ?_⟩) (λH' ⟨z,hd⟩=>?_))
 .let O:=(uE.mp hc).1;let J:Ũ[i]? =Α (c:Int):=by
   ext codes;symm
  apply(_,Á,_,Á,Á,_,hd,?_,fu z m,?_)
  .rw[az,nB];exact oN (Nat.min_le_left _ _) (g9 Ô)
  .rw[aq,take_snoc J,Uy];rfl
 .apply k H' D ⟨z,m,?_⟩;rw[hd];let:(codes x).L=x.cps.u:=by ext codes;rw[az,ml]
  grind
abbrev eE(H:Hp)(j:LA)(L:dm):Prop:=Paired (λq l=>H q=Α Ő) j L
inductive wO(K:FR)(vs:ay)(H:Hp)(Q:VK)(E':XK):Prop
 |mk (a:Addr) (m:Int) (ns:LI) (_:vs=[.ref a,.int m]) (_:ã a (iv ns)) (_:ns.L<=100000) (_:∀H' p qs,ϩ Ē->eE H' qs (JM.aJ m ns)->qs.Nodup->p∉qs->(∀q∈qs,H q=Β)->Q ĝ H')
def eE.same(h:eE H qs L)(s:ai H H'):eE H' qs L:=Paired.nF h λq l e=>s _ _ e
def eE.len(h:eE H qs L):qs.L=L.L:=Paired.length h
theorem eE.upd(h:eE H qs L)(n:p∉qs):eE (upd H p o) qs L:=by
 induction h with
 |nil=>exact .nil
 |cons r t j=>exact .cons (by rw[ao (λz=>n (by rw[z];exact gn))];exact r) (j λz=>n (aQ _ z))
theorem eE.mem(h:eE H qs L):∀q∈qs,∃l∈L,H q=Α Ő:=by
 induction h with
 |nil=>intro q h;cases h
 |cons r t m=>
  intro q h;rcases aV.mp h with rfl|h
  .exact(_,gn,r)
  .let(l,j,e):=m q h;exact(l,aQ _ j,e)
theorem eE.snoc(e:H q=Α Ő)(h:eE H qs L):eE H (qs++[q]) (L++[l]):=by
 induction h with
 |nil=>exact .cons e .nil
 |cons r t j=>exact .cons r j
theorem eE.last(h:eE H qs L):L≠[]->∃j q,qs=j++[q]/\eE H j L.dropLast/\H q=Α (.lst (iv (L.getLastD []))):=by
 induction h with
 |nil=>exact λh=>absurd Á h
 |cons r t m=>
  intro _;cases t with
  |nil=>exact([],_,Á,.nil,r)
  |cons J t=>
   let(j,z,e,t',F):=m Ä;exact(_::j,z,by rw[e];rfl,.cons r t',F)
def LQ:bQ ["text","mark","parts","byte"] ["text","mark"] (aY KI):=ï
theorem FP(m:Int):∀l:LI,(JM.aJ m l).L<=l.L+1:=by
 intro l;induction l with
 |nil=>
  simp[JM.aJ]
 |cons x r j=>
  let j:=j;ext JM.aJ;split
  .simp only[df];symm
  .split
   .simp
   .rename_i w l e;rw[e] at j;simp only[df] at j⊢;lia
theorem yq(m:Int)(l:LI):∀(w:LI),w∈JM.aJ m l->w.L<=l.L:=by
 induction l with
 |nil=>
  intro w h;simp[JM.aJ] at h;simp[h]
 |cons x r j=>
  intro w h;let j:=j;delta JM.aJ at h;split at h
  .rcases aV.mp h with rfl|h
   .simp
   .let:=j w h;simp only[df];lia
  .cases e:JM.aJ m r with
   |nil=>exact absurd e (JM.l8 m r)
   |cons W l=>
    rw[e] at h j;rcases aV.mp h with rfl|h
    .let:=j W gn;simp only[df];symm
    .let:=j w (aQ _ h);simp only[df];lia
inductive CtI(a p:Addr)(m:Int)(ns:LI)(H:Hp)(i:Nat)(σ:L2.St)(H':Hp):Prop
 |mk (v:Option V) (qs:LA) (_:σ=[some ā,some (.int m),some ĝ,v]) (_:ai H H') (_:H' p=Α Ē) (_:eE H' qs (JM.aJ m Çy)) (_:qs.Nodup) (_:p∉qs) (_:∀q∈qs,H q=Β)
def ahm{f:Addr}{fd:FD}(F:bx K "cut" "cut" KI f fd):Ì aF 1 f fd ["text","mark"] (wO K):=by
 refine F.ok LQ Â;let(a,m,ns,rfl,hS,hl,k):=h;refine⟨_,aD (cy 2 LQ.nd (eG Äw))
  (aD (ϒ Åo (dy 3 LQ.nd)
   (aE (dv (cV ir ú â (bW _))
    (aE (sQ (Þ è Äw)))
    (aE (sQ (Þ (cQ c8 è (jt j6 bp) Ø) Ĺ))))))
  Çe),?_⟩
 apply(du _,λq0 CH=>⟨(by show 1<=sizeLine;decide),λp hp=>?_⟩);let qY:=(aN CH).free hp;let pq:p≠q0:=λz=>by rw[z,aq] at hp;cases hp
 refine⟨_,Á,a,Á,⟨_,(fu (aN CH) qY).seq hS⟩,xR (K:=K) (a:=a) (xs:=iv ns) (CtI a p m ns H)
  ⟨none,[q0],rfl,fu (aN CH) qY,aq,.cons (by rw[ao (dj pq)];exact aq) .nil,by simp,À pq,À CH⟩ (λi σ H' _ h=>(by let(_,_,_,J):=h;exact J.seq hS)) ?_ ?_⟩
 .rintro i y σ H' hi ⟨v,Z,rfl,J,j,h2,W,O,Y⟩;obtain⟨z,hz,rfl⟩:∃z,ns[i]? =Α z/\y=V.int z:=by
   rw[bU] at hi;cases e:ns[i]? with
   |none=>rw[e] at hi;cases hi
   |some z=>rw[e] at hi;exact(z,Á,(aO hi).symm)
  let d7:=(bO.mp hz).1;let et:=take_snoc hz;let ec:=JM.agX m z Çy;let lq:Z.L<=i+1:=by
   rw[h2.len];apply gS (FP m _) ?_;rw[nB];lia
  refine⟨_,Á,_,Á,Á,_,Á,bc Ï Ï⟩
  .simp at hc;apply(_,Á,.inl ⟨Á,_,aa.of j⟩,du _,λq U=>⟨p,_,_,Á,Á,(by rw[ao (eO j U)];exact j),(by rw[az];exact g9 Ô),?_⟩);let FQ:=J.free U;let Uz:q∉Z:=λhm=>by
    let(l,_,r):=eE.mem h2 q hm;rw[r] at U;cases U
   apply(_,Z++[q],Á,fu (fu J FQ) qY,?_,?_,?_,?_,?_)
   .rw[aq,bZ];rfl
   .rw[et,ec];ext JM.wL;rw[af hc];exact eE.upd (eE.snoc (l:=[]) aq (eE.upd h2 Uz)) (λz=>by
     rcases gM.mp z with z|z
     .exact O z
     .exact eO j U (À z))
   .exact JT W Uz
   .intro z;rcases gM.mp z with z|z
    .exact O z
    .exact eO j U (À z)
   .intro q' z;rcases gM.mp z with z|z
    .exact Y q' z
    .rw[show q'=q by simpa using z];exact FQ
  .simp at hc;let(gQ,q,rfl,t',r'):=eE.last h2 (JM.l8 m _);let nqs:=λz=>by
    let:=(Iv.mp W).2.2 q z q Ä;exact this Á
   apply(_,Á,_,Á,p,_,_,V.ref q,Á,Á,aa.of j,?_,.inl ⟨Á,_,aa.of r'⟩,_,Á,q,_,_,Á,Á,r',?_,?_)
   .rw[bZ];exact wc _ _
   .rw[az];let:((JM.aJ m Çy).getLastD []).L<=(ns.take i).L:=by
     apply yq m _ _ ?_;rw[List.getLastD_eq_getLast?];cases e:(JM.aJ m Çy).getLast? with
     |none=>exact absurd (ar7.mp e) (JM.l8 m _)
     |some l=>exact Ek e
    rw[nB] at this;exact g9 Ô
   .let np:p≠q:=λz=>O (by rw[z];simp);apply(_,gQ++[q],Á,fu J (Y q Ä),by rw[ao np];exact j,?_,W,O,Y);rw[et,ec];ext JM.wL;rw[ag hc];apply eE.snoc ?_ (eE.upd t' nqs);rw[aq];exact cw (λz=>some (HO.lst z)) (Uy _ _).symm
 .rintro σ H' ⟨v,Z,rfl,J,j,h2,W,O,Y⟩;rw[az,nE] at h2;exact(_,Á,k H' p Z ⟨J,qY,j⟩ h2 W O Y)
end
def oI:Option Nat->V
 |some i=>.int (i:Nat)
 |none=>.aK
def bC(j:dm)(part:LI):Option Nat:=j.findIdx? λw=>decide (w=part)
inductive FS(K:FR)(vs:ay)(H:Hp)(Q:VK)(E':XK):Prop
 |mk (aw ap:Addr) (pV:LS) (part:LI) (_:vs=[.ref aw,.ref ap]) (_:ŭ aw (pV.M V.str)) (_:(∀x∈pV,x.cps.u<=100000)) (_:ã ap Ãe) (_:∀H',ai H H'->Q (oI (bC (pV.M codes) part)) H')
def find_none{α:Type}{p:α->Bool}{l:List α}(h:∀x∈l,p x=false):l.findIdx? p=Β:=by
 symm
theorem aho{α:Type}{p:α->Bool}{l:List α}:∀{i:Nat}{x:α},l[i]? =Α x->(∀y∈l.take i,p y=false)->p x=true->l.findIdx? p=Α i:=by
 induction l with
 |nil=>intro i x h _ _;simp at h
 |cons a l F=>
  intro i x h j m;rw[ZR];cases i with
  |zero=>
   let e:=aO h;subst e;rw[m];rfl
  |succ i=>
   rw[j a Ä,F (i:=i) (x:=x) h (λy z=>j y (by rw[Qz];exact aQ _ z)) m];rfl
def ai.tup{K:FR}{H H':Hp}{a:Addr}{xs:ay}(e:ai H H')(h:ŭ a xs):bz K H' a xs:=by
 rcases h with (h|⟨o,h⟩)|h
 .exact .inl (.inl (e _ _ h))
 .exact .inl (.inr ⟨o,e _ _ h⟩)
 .exact .inr h
section
variable{P:Pg}{w:Wd}{K:FR}{mg:MG}{base:Heap}
def UA:bQ ["words","part","place","word"] ["words","part"] (aY KL):=ï
def ahp{f O:Addr}{fd yr:FD}(F:bx K "place_among" "place_among" KL f fd)(tE:mg "enumerate"=Β)(GS:Ì aF 1 O yr ["written"] CD)(mS:mg "spelled"=Α (.ref O))(kS:PySem.W.keepIn K (.ref O)=true)(bS:Binds K yr ["written"] []):
  ba P w K mg base aF 2 f fd ["words","part"] (FS K):=by
 refine F.ok UA Â;let(J,ap,z,part,rfl,hW,hw,hP,k):=h;refine⟨_,aD (nO qX Á (SU Ò tE õ) (iM 2 3 UA.nd)
   (aE (dv (cV (aeH hr.units) (mG GS hr rfl mS kS bS .nil tj Ĺ) â (bW _)) Çe eA)))
  ϋ,?_⟩
 refine⟨_,Á,J,_,Á,hW,SV (K:=K) (a:=J) (xs:=z.M V.str) (λi σ H'=>∃Z v3:Option V,σ=[some (.ref J),some Éb,Z,v3]/\ai H H'/\∀y∈(z.M codes).take i,decide (y=part)=false)
  ⟨none,none,rfl,ai.refl H,by simp⟩ (λi σ H' _ ⟨_,_,_,j,_⟩=>ai.tup j hW) ?_ ?_⟩
 .rintro i y T σ H' hi ⟨Z,v3,rfl,j,m⟩ hT;obtain⟨x,hx,rfl⟩:∃x,z[i]? =Α x/\y=V.str x:=by
   grind
  let s2:=fu (o:=.tup [.int (i:Nat),.str x]) j (j.free hT);apply(T,_,Á,bz.of aq,Á,_,_,Á,_,_,Á,Á,_,Á,x,Á,hw x (bY hx),λH2 p hN=>?_);let Y:=s2.R hN.1;let jv:(z.M codes)[i]? =Α Ũ:=by rw[bU,hx];rfl
  refine⟨_,Á,p,ap,codes x,part,Á,Á,aa.of hN.2.2,Y.seq hP,_,Á,bc Ï Ï⟩
  .refine Ĝ;let e:=aho jv m hc;let q:=k H2 Y;delta bC at q;rw[e] at q;exact q
  .apply(_,_,Á,Y,λy U=>?_);rw[take_snoc jv] at U;grind
 .rintro σ H' ⟨Z,v3,rfl,j,m⟩;let q:=k H' j;rw[az] at m;delta bC at q;rw[find_none (λy U=>m y (by rw[<-az (f:=codes),nE];exact U))] at q;exact q
def jN(signs part:LI):Option LI:=if part.all (λb=>signs.Y b)=true then some (part.M λb=>((signs.idxOf b:Nat):Int)) else none
inductive FT(K:FR)(vs:ay)(H:Hp)(Q:VK)(E':XK):Prop
 |mk (x:Str) (ap:Addr) (part:LI) (_:vs=[.str x,.ref ap]) (_:x.cps.u<=100000) (_:ã ap Ãe) (_:part.L<=100000) (_:(jN Ũ part=Β->∀H',ai H H'->Q .aK H')) (_:∀l,jN Ũ part=Α l->∀H' p,ϩ Ő->Q ĝ H')
theorem LR(b:Int):∀l:LI,we (.int b) (iv l)=l.Y b:=by
 intro l;induction l with
 |nil=>exact Á
 |cons x l j=>
  let j:=j;delta we iv at j⊢;rw[a8,uJ,j,Be];congr 1;show(x==b)=(b==x);by_cases h:x=b
  .subst h;rfl
  .let h2:¬b=x:=λz=>h z.symm;rw[xD.mpr h,xD.mpr h2]
theorem CI:∀l:LI,(iv l).all lZ=true:=by
 intro l;induction l with
 |nil=>exact Á
 |cons x l j=>
  show(lZ (.int x)&&(iv l).all lZ)=true;rw[j];rfl
theorem tG{l:LI}{i:Nat}{y:V}(h:(iv l)[i]? =Α y):∃z,l[i]? =Α z/\y=V.int z:=by
 delta iv at h;rw[bU] at h;cases e:l[i]? with
 |none=>rw[e] at h;cases h
 |some z=>rw[e] at h;exact(z,Á,(aO h).symm)
def ahq(l:List Bool)(b:Bool):(l++[b]).M V.bl=l.M V.bl++[.bl b]:=by
 simp
def UB{l:LI}{b:Int}(h:l.Y b=true):∃j z,l.idxOf b=j/\(iv l)[j]? =Α z/\qh z (.int b)=true/\∀(m:Nat)(Z:V),m<j->(iv l)[m]? =Α Z->qh Z (.int b)=false:=by
 let U:b∈l:=À h
 let O:l.idxOf b<l.L:=List.idxOf_lt_length_of_mem U;apply(_,.int b,Á,?_,?_,λm Z J hz=>?_)
 .ext iv;rw[bU,c7 O,List.getElem_idxOf];rfl
 .show(b==b)=true;exact ZQ b
 .let(z,F,rfl):=tG hz;show(z==b)=false;let:=List.not_of_lt_findIdx (p:=(· ==b)) (xs:=l) (i:=m) J;let(W,e):=bO.mp F;rw[e] at this;simpa using this
def Af:bQ ["signs","part","known","byte"] ["signs","part"] (aY KM):=ï
def ahs{f Z:Addr}{fd yr:FD}(F:bx K "places_in" "places_in" KM f fd)(tA:mg "all"=Β)(GS:Ì aF 1 Z yr ["written"] CD)(mS:mg "spelled"=Α (.ref Z))(kS:PySem.W.keepIn K (.ref Z)=true)(bS:Binds K yr ["written"] []):
  ba P w K mg base aF 2 f fd ["signs","part"] (FT K):=by
 refine F.ok Af Â;let(x,m,part,rfl,hx,J,hl,k0,k1):=h;refine⟨_,aD (cy 2 Af.nd (mG GS hr Á mS kS bS .nil tj õ))
  (aD (dv (qe (jH (dc (wj rfl) Ò tA zm (ae (eB (own:=[("byte",3)]) (te:=bV (EO K false) Ş š) rfl Af.nd Æy Ê (λ_ _ _ _ _=>dy 3 Af.nd) Õ
     (λ_ _ _ _ _=>jI Jx ú è (by with_unfolding_all rfl))) ah)))) ϋ eA)
  (aE (a0 (eB (own:=[("byte",3)]) (te:=RE K "list" (RN K) š Âx) rfl Af.nd Æy Ê (λ_ _ _ _ _=>dy 3 Af.nd) Õ
     (λ_ _ _ _ _=>sW PySem.F.plainAttrs_list PySem.F.slot_list_index PySem.F.type_list_index RP è Ĺ))))),?_⟩
 apply(_,Á,x,Á,hx,λH1 pk hN=>?_);let s1:=hN.1;refine⟨_,Á,m,Á,⟨_,s1.seq J⟩,λD hD=>gC (K:=K) (a:=m) (xs:=iv part) (λi H'=>ai H1 H'/\H' D=Α (.lst (((part.take i).M λb=>(codes x).Y b).M V.bl))) ⟨aN hD,aq⟩
  (λi H' _ ⟨s2,_⟩=>(s1.R s2).seq J) (λi y H' hi ⟨s2,hd⟩=>?_) (λH' ⟨s2,hd⟩=>?_)⟩
 .let(z,hz,rfl):=tG hi;let d7:=(bO.mp hz).1;apply(Á,eJ ⟨_,Á,_,Á,pk,_,Á,.inl (aa.of (s2 _ _ hN.2.2)),Á,CI _,_,hd,?_,fu s2 hD,?_⟩)
  .rw[az,az,nB];exact g9 (by grind)
  .rw[aq,take_snoc hz,bZ];show some (HO.lst (_++[V.bl (we (.int z) (iv Ũ))]))=Α (HO.lst ((_++[_]).M V.bl));rw[ahq,LR]
 .rw[show(iv part).L=part.L by simp,nE] at hd;apply(D,_,Á,aa.of hd,_,Á,?_);let ea:(part.M λb=>(codes x).Y b).all id=part.all λb=>(codes x).Y b:=by
   simp
  rw[ea];refine bc Ï Ï
  .simp at hc;apply k0 ?_ H' Áe;ext jN;symm
  .let hc:part.all (λb=>(codes x).Y b)=true:=by simpa using hc
   let e1:jN Ũ part=Α (part.M λb=>(((codes x).idxOf b:Nat):Int)):=by
    ext jN;symm
   refine⟨_,Á,m,Á,⟨_,(s1.R s2).seq J⟩,λD2 Y=>gC (K:=K) (a:=m) (xs:=iv part) (λi O=>ai H' O/\O D2=Α (.lst (iv ((part.take i).M λb=>(((codes x).idxOf b:Nat):Int))))) ⟨aN Y,aq⟩
    (λi O _ ⟨s3,_⟩=>((s1.R s2).R s3).seq J) (λi y O hi ⟨s3,U⟩=>?_) (λO ⟨s3,U⟩=>?_)⟩
   .let(z,hz,rfl):=tG hi;let d7:=(bO.mp hz).1;let(j,zz,ej,hj,LU,CJ):=UB (lV.mp hc z (bY hz));let hk:=(Ĳ) _ _ hN.2.2;apply(Á,eJ ⟨_,Á,.inl ⟨Á,_,aa.of hk⟩,_,Á,pk,_,_,j,zz,Á,Á,aa.of hk,Á,CI _,hj,LU,CJ,_,U,?_,fu s3 Y,?_⟩)
    .ext iv;rw[az,az,nB];exact g9 (by grind)
    .rw[aq,take_snoc hz,bZ,<-ej];simp
   .rw[show(iv part).L=part.L by simp,nE] at U;exact k1 _ e1 O D2 ⟨(s1.R s2).R s3,(s1.R s2).free Y,U⟩
def iz(part:LI):Option LI:=if part.L=16 then jN JM.lK part else none
inductive LW(K:FR)(vs:ay)(H:Hp)(Q:VK)(E':XK):Prop
 |mk (ap:Addr) (part:LI) (_:vs=[.ref ap]) (_:ã ap Ãe) (_:part.L<=100000) (_:(iz part=Β->∀H',ai H H'->Q .aK H')) (_:∀l,iz part=Α l->∀H' p,ϩ Ő->Q ĝ H')
def aht:bQ ["part"] ["part"] (aY KN):=ï
def fb(l:LI):(iv l).L=l.L:=by ext iv;rw[az]
def ahu(F:bx K "read_colours" "read_colours" KN f fd)(tL:mg "len"=Β)(mC:mg "COLOUR_SIGNS"=Α uC)(rC:RelV (.str "0123456789abcdef") uC)(J:Ì aF 2 fP LX ["signs","part"] (FT K)) (mP:mg "places_in"=Α (.ref fP)) (Z:PySem.W.keepIn K (.ref fP)=true) (O:Binds K LX ["signs","part"] []):
  ba P w K mg base aF 3 f fd ["part"] (LW K):=by
 refine F.ok aht Â;let(j,part,rfl,m,Y,k0,k1):=h;refine⟨_,aD (dv (cV vZ Ċ bp (bW _)) ϋ eA)
  (aE (a0 (mG J hr rfl mP Z O .nil tj (ae (vV Ò mC rC) õ)))),?_⟩
 refine⟨_,Á,j,_,Á,.inl m,Á,_,Á,bc Ï Ï⟩
 .let hc:¬part.L=16:=by
   grind
  apply k0 ?_ H ϊ;ext iz;symm
 .let hc:part.L=16:=by
   grind
  let e:iz part=jN (codes "0123456789abcdef") part:=by
   ext iz;rw[af hc];rfl
  exact(_,Á,_,j,part,Á,by decide,m,Y,λz H' s1=>k0 Èb H' s1,λl z H' p U=>k1 l Èb H' p U)
end
def Dn(P:Pg)(w:Wd)(K:FR)(mg:MG)(base:Heap)(CX:nQ)(k:Nat)(x:Str)(ps:LS)(sp:Sp):Prop:=
 ∃f fd,Ì CX k f fd ps sp/\mg x=Α Ć/\PySem.W.keepIn K Ć=true/\L2.Binds K fd ps []
def Cn(mg:MG)(x:Str)(v:V):Prop:=∃u,mg x=Α u/\RelV v u
def Tn(K:FR)(mg:MG)(x:Str)(xs:ay):Prop:=∃a,mg x=Α ā/\∀H,ŭ a xs
def LstAt(H H':Hp):Option LI->V->Prop
 |none,v=>v=.aK
 |some l,v=>∃c,v=.ref c/\H c=Β/\H' c=Α Ő
section
variable{X:Cx}
def bH{CX:nQ}{k m:Nat}{x:Str}{ps:LS}{sp:Sp}{e:Expr}{es:List Expr}{t:TA}{p pos:Pos}{E:XK}(d:Dn X.prog X.w X.K X.mg X.base CX k x ps sp)(z:PA X (e::es) t)(hr:dJ m X.A:=by assumption)(O:uR CX X E:=by exact tj)(hk:k<=m:=by decide)(J:Gl X x:=by rfl)(U:(x==("__debug__":Str))=false:=by decide)(F:starEach (e::es) X.env=(false,eval e X.env)::starEach es X.env:=by rfl)(j:(backTo pos ø).any (·.1)=false:=by rfl):PE X (.Call ϑ (e::es) [] pos) (ic sp [] E t):=
 let ⟨_,_,g,a,b,c⟩:=d
 mG g (hr.mono hk) J a b c .nil O z U F j
def cj{x:Str}{v:V}{pos:Pos}(c:Cn X.mg x v)(j:Gl X x:=by rfl)(hd:(x==("__debug__":Str))=false:=by decide):PE X Àe (tC v):=let ⟨_,m,r⟩:=c;vV j m r hd
end
structure eK where
 a:Addr
 dx:Addr
 l:Addr
 shape:Nat
 cells:LI
structure cz where
 a:Addr
 dx:Addr
 l:Addr
 above:Bool
 below:Bool
 flags:List eK
structure eS where
 a:Addr
 dx:Addr
 cl:Addr
 gl:Addr
 side:Nat
 classes:LI
 ak:List cz
structure Cs where
 S:Addr
 G:Addr
 P:Addr
abbrev Nd:=Addr×HO
def wQ(s:eK):List (Str×V):=[("shape",.int (s.shape:Nat)),("cells",.ref s.l)]
def qz(g:cz):List (Str×V):=[("above",.bl g.above),("below",.bl g.below),("flags",.ref g.l)]
def l9(p:eS):List (Str×V):=[("side",.int (p.side:Nat)),("classes",.ref p.cl),("glimpses",.ref p.gl)]
def iA(C:Cs)(s:eK):List Nd:=[(s.a,.ins C.S s.dx (wQ s)),(s.l,.lst (iv s.cells))]
def gE(C:Cs)(g:cz):List Nd:=(g.a,.ins C.G g.dx (qz g))::(g.l,.lst (g.flags.M λs=>V.ref s.a))::g.flags.flatMap (iA C)
def eM(C:Cs)(p:eS):List Nd:=(p.a,.ins C.P p.dx (l9 p))::(p.cl,.lst Ŗ)::(p.gl,.lst (p.ak.M λg=>V.ref g.a))::p.ak.flatMap Åw
def Lies(H:Hp)(ns:List Nd):Prop:=∀x∈ns,H x.1=Α x.2
def Lies.same{H H':Hp}{ns:List Nd}(h:Lies H ns)(s:ai H H'):Lies H' ns:=λx j=>s _ _ (h x j)
structure iP where
 above:Bool
 below:Bool
 flags:List (Nat×LI)
structure fT where
 side:Nat
 classes:LI
 ak:List iP
def eK.m(s:eK):Nat×LI:=(s.shape,s.cells)
def cz.m(g:cz):iP:=⟨g.above,g.below,g.flags.M eK.m⟩
def eS.m(p:eS):fT:=⟨p.side,p.classes,p.ak.M cz.m⟩
section
variable{C:Cs}{H:Hp}{p:eS}
def Lies.pl(h:Lies H Ám):H p.a=Α (.ins C.P p.dx (l9 p)):=h (p.a,_) (by ext eM;simp)
def Lies.cl(h:Lies H Ám):H p.cl=Α (.lst Ŗ):=h (p.cl,_) (by ext eM;simp)
def Lies.gl(h:Lies H Ám):H p.gl=Α (.lst (p.ak.M λg=>V.ref g.a)):=h (p.gl,_) (by ext eM;simp)
def Lies.sub(h:Lies H Ám){g:cz}(j:g∈p.ak):Lies H Æw:=λx m=>h x (by
 ext eM;exact aQ _ (aQ _ (aQ _ (lr.mpr ⟨g,j,m⟩))))
def Lies.ga{g:cz}(h:Lies H Æw):H g.a=Α (.ins C.G g.dx (qz g)):=h (g.a,_) (by ext gE;simp)
def Lies.fl{g:cz}(h:Lies H Æw):H g.l=Α (.lst (g.flags.M λs=>V.ref s.a)):=h (g.l,_) (by ext gE;simp)
def Lies.Ag{g:cz}(h:Lies H Æw){s:eK}(hs:s∈g.flags):Lies H (iA C s):=λx j=>h x (by
 ext gE;exact aQ _ (aQ _ (lr.mpr ⟨s,hs,j⟩)))
def Lies.sa{s:eK}(h:Lies H (iA C s)):H s.a=Α (.ins C.S s.dx (wQ s)):=h (s.a,_) (by ext iA;simp)
def Lies.sl{s:eK}(h:Lies H (iA C s)):H s.l=Α (.lst (iv s.cells)):=h (s.l,_) (by ext iA;simp)
end
def ij{f:Str}{v:V}{r:List (Str×V)}:((f,v)::r).Q f=Α v:=by
 rw[vL,ZQ]
def fw{f g:Str}{v:V}{r:List (Str×V)}(h:(f==g)=false):((g,v)::r).Q f=r.Q f:=by
 rw[vL,h]
def UC(p:eS):(l9 p).Q ("side":Str)=Α (.int (p.side:Nat)):=ij
def LY(p:eS):(l9 p).Q ("classes":Str)=Α (.ref p.cl):=(fw È).R ij
def mV(p:eS):(l9 p).Q ("glimpses":Str)=Α (.ref p.gl):=(fw È).R ((fw È).R ij)
def UD(g:cz):(qz g).Q ("above":Str)=Α (.bl g.above):=ij
def UE(g:cz):(qz g).Q ("below":Str)=Α (.bl g.below):=(fw È).R ij
def wR(g:cz):(qz g).Q ("flags":Str)=Α (.ref g.l):=(fw È).R ((fw È).R ij)
def LZ(s:eK):(wQ s).Q ("shape":Str)=Α (.int (s.shape:Nat)):=ij
def FU(s:eK):(wQ s).Q ("cells":Str)=Α (.ref s.l):=(fw È).R ij
structure ma(K:FR)(C:Cs):Prop where
 cS:lD K C.S
 cG:lD K C.G
 cP:lD K C.P
 Ah:gO K C.S "shape"
 FV:gO K C.S "cells"
 UF:gO K C.G "above"
 UG:gO K C.G "below"
 wU:gO K C.G "flags"
 L6:gO K C.P "side"
 FW:gO K C.P "classes"
 mX:gO K C.P "glimpses"
theorem qA{α:Type}(l:List α):l=[]\/∃r x,l=r++[x]:=by
 cases e:l.getLast? with
 |none=>exact .inl (ar7.mp e)
 |some x=>
  right;let(r,hr):=List.getLast?_eq_some_iff.mp e;exact(r,x,hr)
inductive FX(C:Addr)(ns:LS)(vs:ay)(H:Hp)(Q:VK)(E':XK):Prop
 |mk (x dx:Addr) (as:ay) (_:vs=.ref x::as) (_:as.L=ns.L) (_:H x=Α Âl) (_:∀H',H' x=Α (.ins C dx (ns.zip as))->(∀b o,H b=Α o->b≠x->H' b=Α o)->Q .aK H')
def n0(P:Pg)(w:Wd)(K:FR)(mg:MG)(base:Heap)(x:Str)(C:Addr)(ns:LS):Prop:=
 ∃f fd,Mk K C f/\Ì aF 1 f fd ("self"::ns) (FX C ns)/\mg x=Α ą/\L2.Binds K fd ("self"::ns) []
def ahv{f g:Str}{v x:V}{r:List (Str×V)}(h:¬g=f):iu f v ((g,x)::r)=(g,x)::iu f v r:=by
 show(if g=f then (g,v)::r else (g,x)::iu f v r)=_;rw[ag h]
section
variable{P:Pg}{w:Wd}{K:FR}{mg:MG}{base:Heap}{C:Cs}
end
def ite_yes{c A B:Prop}[Decidable c](hc:c)(h:A):if decide c=true then A else B:=by
 rw[af (eN hc)];exact h
def ite_no{c A B:Prop}[Decidable c](hc:¬c)(h:B):if decide c=true then A else B:=by
 rw[ag (À hc)];exact h
section
variable{X:Cx}
def qB{m:Nat}{x:Str}{C:Addr}{ns:LS}{e:Expr}{es:List Expr}{t:TA}{p pos:Pos}(d:n0 X.prog X.w X.K X.mg X.base x C ns)(hr:dJ m X.A)(z:PA X (e::es) t)(hk:2<=m:=by decide)(J:Gl X x:=by rfl)(O:(x==("__debug__":Str))=false:=by decide)(F:starEach (e::es) X.env=(false,eval e X.env)::starEach es X.env:=by rfl)(j:(backTo pos ø).any (·.1)=false:=by rfl):PE X (.Call ϑ (e::es) [] pos) (Ri C (FX C ns) [] E0 t):=
 let ⟨_,_,M,g,a,c⟩:=d
 abT M g (hr.mono hk) J a c .nil tj z O F j
end
end HD
namespace HD
open PySem PySem.Spec PyProof.Rows L2
theorem ahw{f:Str}{v:V}{fs:List (Str×V)}:(∀x∈fs.M (·.1),¬x=f)->iu f v fs=fs++[(f,v)]:=by
 induction fs with
 |nil=>exact @λ_=>Á
 |cons j r z=>
  let(g,x):=j;intro h;rw[ahv (h g Ä),z λy m=>h y (aQ _ m)];rfl
def FY(K:FR):Nat->LS->TS
 |_,[]=>QZ
 |k,[n]=>EL K ύ (aA k) n
 |k,n::ns=>Jd (EL K ύ (aA k) n) (FY K (k+1) ns)
theorem UH{K:FR}{C x dx:Addr}(c:lD K C){σ:L2.St}(J:σ[0]? =Α (some (V.ref x))){D:Ends}:∀(ns:LS)(as:ay)(done:List (Str×V))(k:Nat)(H:Hp),as.L=ns.L->(∀(i:Nat)a,as[i]? =Α a->σ[k+i]? =Α (some a))->H x=Α (.ins C dx done)->done.L+ns.L<=1000->
  (∀n∈ns,n∉done.M (·.1))->ns.Nodup->(∀n∈ns,ϲ n)->(∀H',H' x=Α (.ins C dx (done++ns.zip as))->(∀b o,H b=Α o->b≠x->H' b=Α o)->D.nx σ H')->FY K k ns D σ H
 |[],as,done,k,H,hl,ha,hx,hs,hf,hd,hn,q=>by
  obtain rfl:as=[]:=À hl
  exact q H (À hx) λb o e _=>e
 |n::ns,a::as,done,k,H,hl,ha,hx,hs,hf,hd,hn,q=>by
  rw[df] at hs;let(W,Y):=jZ.mp hd;let U:iu n a done=done++[(n,a)]:=ahw λy z e=>hf n Ä (by rw[<-e];exact z);let step:∀F:Ends,F.nx σ (upd H x (.ins C dx (done++[(n,a)])))->EL K ύ (aA k) n F σ H:=λF h=>by
   apply(a,ha 0 a Á,_,J,x,C,dx,done,Á,hx,c,hn n Ä,by lia,?_);rw[U];exact h
  let bT:∀H',H' x=Α (.ins C dx ((done++[(n,a)])++ns.zip as))->(∀b o,upd H x (.ins C dx (done++[(n,a)])) b=Α o->b≠x->H' b=Α o)->D.nx σ H':=λH' Z h2=>by
   apply q H' (by rw[Z,qW];rfl) λb o e O=>h2 b o ?_ O;rw[ao O];exact e
  cases ns with
  |nil=>
   obtain rfl:as=[]:=À hl
   exact step D (bT _ (by rw[aq];simp) λb o e _=>e)
  |cons m ms=>
   apply step _ (UH c J (m::ms) as (done++[(n,a)]) (k+1) _ (À hl) (λi b e=>?_) aq (by simp at hs⊢;lia) (λy z j=>?_) Y (λy z=>hn y (aQ _ z)) bT)
   .rw[show k+1+i=k+(i+1) by lia];exact ha (i+1) b e
   .rw[bZ] at j;rcases gM.mp j with j|j
    .exact hf y (aQ _ z) j
    .obtain rfl:y=n:=by simpa using j
     exact W z
def ahx{P:Pg}{w:Wd}{K:FR}{mg:MG}{base:Heap}{C:Addr}{ns:LS}{m:Str}{st:Stmt}{f:Addr}{fd:FD}(F:bx K "__init__" m st f fd)(c:lD K C)(n:∀n∈ns,ϲ n)(S:bQ ("self"::ns) ("self"::ns) Ák)(hs:ns.L<=1000)(d:∀aI A outer s H E,lx (ϗ ("self"::ns) m Ák f aI A outer s H E).vW Ån (FY K 1 ns)):Ì aF 1 f fd ("self"::ns) (FX C ns):=by
 refine F.ok S (len:=λvs H Q E h=>(by let(x,dx,as,rfl,j,_):=h;exact cw (· +1) j)) Â;let(x,dx,as,rfl,j,z,k):=h;apply(_,d aI A outer s H E,UH c (by ext L2.start;rfl) ns as [] 1 H j (λi a e=>?_) z (À hs) Ä (jZ.mp S.nd).2 n λH' h2 J=>k H' h2 J);ext L2.start;let hi:=(bO.mp e).1;rw[Ik (by simp;lia),bU,show 1+i=i+1 by lia,arJ,e];rfl
end HD
namespace HD
open PySem PySem.Spec PyProof.Rows L2
open PySem.W (Codec)
def kC(line:LI):Option LI:=if line.L=4 then jN JM.qu line else none
inductive UI(K:FR)(vs:ay)(H:Hp)(Q:VK)(E':XK):Prop
 |mk (ap:Addr) (line:LI) (_:vs=[.ref ap]) (_:ã ap Æc) (_:line.L<=100000) (_:∀H' v,ai H H'->LstAt H H' (kC line) v->Q v H')
section
variable{P:Pg}{w:Wd}{K:FR}{mg:MG}{base:Heap}
def ahy:bQ ["line"] ["line"] (aY K5):=cJ
def ahz(F:bx K "read_row" "read_row" K5 f fd)(tL:mg "len"=Β)(O:Cn mg "ROW" (.int 4))(cS:Cn mg "SEEN_SIGNS" (.str "0123456789abcdef?"))(U:Ç 2 "places_in" ["signs","part"] (FT K)):Ì aF 3 f fd ["line"] (UI K):=by
 refine F.ok ahy Â;let(m,part,rfl,J,W,k):=h;refine⟨_,aD (dv (cV vZ Ċ (cj O) (bW _)) ϋ eA)
  (aE (a0 (bH (hr:=hr) U (ae Ça õ)))),?_⟩
 refine⟨_,Á,m,_,Á,.inl J,Á,_,Á,bc Ï Ï⟩
 .let hc:¬part.L=4:=by
   grind
  apply k H .aK ϊ ?_;ext kC;rw[ag hc];rfl
 .let hc:part.L=4:=by
   grind
  let e:kC part=jN (codes "0123456789abcdef?") part:=by
   ext kC;rw[af hc];rfl
  exact(_,Á,_,m,part,Á,by decide,J,W,λz H' Y=>k H' _ Y (by rw[e,z];rfl),λl z H' p j=>k H' _ j.1 (by rw[e,z];exact(p,rfl,j.2.1,j.2.2)))
def dZ(line:LI):Option (Nat×LI):=match JM.aJ 32 line with
 |[a,b,c]=>if a=JM.jM then (match bC JM.va b,iz c with
  |some s,some l=>some (s,l)
  |_,_=>none) else none
 |_=>none
def Ai(H H':Hp):Option (Nat×LI)->V->Prop
 |none,v=>v=.aK
 |some (s,l),v=>∃t c,v=.ref t/\H t=Β/\H c=Β/\H' t=Α (.tup [.int (s:Nat),.ref c])/\H' c=Α Ő
inductive UJ(K:FR)(vs:ay)(H:Hp)(Q:VK)(E':XK):Prop
 |mk (ap:Addr) (line:LI) (_:vs=[.ref ap]) (_:ã ap Æc) (_:line.L<=100000) (_:∀H' v,ai H H'->Ai H H' (dZ line) v->Q v H')
def FZ:bQ ["line","words","side","classes"] ["line"] (aY K4):=cJ
def yt:LS:=["front","behind","unknown"]
def ahA(F:bx K "read_side" "read_side" K4 f fd)(tL:mg "len"=Β)(cB:Cn mg "BLANK" Æf)(cS:Tn K mg "SIDES" (yt.M V.str))(dC:Ç 1 "cut" ["text","mark"] (wO K)) (dS:Ç 1 "spelled" ["written"] CD) (dA:Ç 2 "place_among" ["words","part"] (FS K)) (dR:Ç 3 "read_colours" ["part"] (LW K)):
  ba P w K mg base aF 4 f fd ["line"] (UJ K):=by
 let(aS,mS,hS):=cS;refine F.ok FZ Â;let(ap,line,rfl,hP,hl,k):=h;let vb:dJ 1 _:=hr.mono Ù;let n8:dJ 2 _:=hr.mono Ù;refine⟨_,aD (cy 1 FZ.nd (bH (hr:=vb) dC (ae Ú ϸ)))
  (aD (dv (PW.pt (pw_or (cV vZ ÿ bp (bW _))
    (pw_or1 (cV (S3 hr.units) (cQ c8 â bp Ø) (bH (hr:=vb) dS (ae Ez ah)) (bW _))))) ϋ eA)
  (aD (cy 2 FZ.nd (bH (hr:=n8) dA (ae (vV (v:=.ref aS) Ò mS rfl) ŝ)))
  (aD (cy 3 FZ.nd (bH (hr:=hr) dR ŝ))
  (aD (dv (PW.pt (pw_or Æs (pw_or1 (oS (rk ú))))) ϋ eA)
  (aE (a0 (uQ (ae è Ĺ)))))))),?_⟩
 apply(_,Á,ap,32,line,Á,hP,hl,λH1 p qs Y j nd np hf=>?_);let cE:((qs.M V.ref).L:Int)=((JM.aJ 32 line).L:Nat):=by rw[az,j.len]
 let s1:=Y.1;refine⟨_,Á,p,_,Á,.inl (aa.of Y.2.2),Á,_,Á,bc Ï Ï⟩
 .apply k H1 .aK s1 ?_;let:dZ line=Β:=by
   ext dZ;grind
  rw[this];rfl
 .let h3:(JM.aJ 32 line).L=3:=by
   grind
  obtain⟨a,b,c,W⟩:∃a b c,JM.aJ 32 line=[a,b,c]:=by
   match JM.aJ 32 line,h3 with
   |[a,b,c],_=>exact(a,b,c,Á)
  rw[W] at j;let L7:∀w∈[a,b,c],w.L<=100000:=λw hw=>gS (yq 32 line w Å) hl;obtain⟨qa,qb,qc,rfl⟩:∃x y z,qs=[x,y,z]:=by
   let:=j.len
   match qs,this with
   |[x,y,z],_=>exact(x,y,z,Á)
  cases j with
  |cons ha j=>
   cases j with
   |cons hb j=>
    cases j with
    |cons js j=>
     apply⟨_,Á,p,_,0,V.ref qa,Á,Á,aa.of Y.2.2,Á,"seen",Á,by decide,λH2 p2 J=>?_⟩;let U:=s1.R J.1;refine⟨qa,p2,a,codes "seen",Á,Á,aa.of (J.1 _ _ ha),aa.of J.2.2,_,Á,bc Ġ Ġ⟩
     .apply k H2 .aK U ?_;let:dZ line=Β:=by
       ext dZ;rw[W];show(if a=JM.jM then _ else none)=Β;simp at hd;rw[ag (λz=>hd (z.R rfl))]
      rw[this];rfl
     .simp at hd;apply(_,Á,p,_,1,V.ref qb,Á,Á,aa.of (J.1 _ _ Y.2.2),Á,aS,qb,yt,b,Á,hS H2,by decide,aa.of (J.1 _ _ hb),λH3 O=>?_);apply(_,Á,p,_,2,V.ref qc,Á,Á,aa.of (O _ _ (J.1 _ _ Y.2.2)),Á,qc,c,Á,aa.of (O _ _ (J.1 _ _ js)),L7 c Ä,λz H4 Z=>?_,λl z H4 p4 F1=>?_)
      .
       let en:dZ line=Β:=by
        ext dZ;rw[W];show(if a=JM.jM then _ else none)=Β;rw[af (show a=JM.jM from hd),z];cases bC JM.va b <;> rfl
       apply(_,Á,_,Á,bc Èk (λ_=>⟨_,Á,_,Á,lJ ?_⟩))
       .exact k H4 .aK ((U.R O).R Z) (by rw[en];rfl)
       .exact k H4 .aK ((U.R O).R Z) (by rw[en];rfl)
      .let Z:=F1.1;apply(_,Á,_,Á,bc (λm=>?_) (λm=>⟨_,Á,_,Á,nW ?_⟩))
       .simp at m;let en:dZ line=Β:=by
         ext dZ;rw[W];show(if a=JM.jM then _ else none)=Β;rw[af (show a=JM.jM from hd),show JM.va=yt.M codes from rfl];cases e:bC Èl b with
         |none=>rfl
         |some i=>rw[e] at m;cases m
        exact k H4 .aK ((U.R O).R Z) (by rw[en];rfl)
       .simp at m;obtain⟨i,ei⟩:∃i,bC Èl b=Α i:=by
         cases e:bC Èl b with
         |none=>rw[e] at m;exact absurd Á m
         |some i=>simp
        let en:dZ line=Α (i,l):=by
         ext dZ;rw[W];show(if a=JM.jM then _ else none)=_;rw[af (show a=JM.jM from hd),z,show JM.va=yt.M codes from rfl,ei]
        apply(_,Á,_,Á,(by show 2<=sizeLine;decide),λt ht=>?_);let s5:=(U.R O).R Z;apply k _ (.ref t) (fu s5 (s5.free ht)) ?_;rw[en];apply(t,p4,Á,s5.free ht,(U.R O).free F1.2.1,?_,?_)
        .rw[aq,ei];rfl
        .rw[ao (eO F1.2.2 ht)];exact F1.2.2
end
inductive Told where
 |side (s:Nat) (l:LI)
 |hoist (k:Nat)
 |shape (k:Nat)
 |row (l:LI)
def Told.sort:Told->Nat
 |.side _ _=>0
 |.hoist _=>1
 |.shape _=>2
 |.row _=>3
def kG(line:LI):Option Told:=match dZ line with
 |some x=>some (.side x.1 x.2)
 |none=>match bC JM.iF line with
  |some k=>some (.hoist k)
  |none=>match bC JM.iG line with
   |some k=>some (.shape k)
   |none=>(kC line).M .row
def Aj(H H':Hp):Told->V->Prop
 |.side s l,v=>∃t c,v=.ref t/\H c=Β/\H' t=Α (.tup [.int (s:Nat),.ref c])/\H' c=Α Ő
 |.hoist k,v=>v=.int (k:Nat)
 |.shape k,v=>v=.int (k:Nat)
 |.row l,v=>∃c,v=.ref c/\H c=Β/\H' c=Α Ő
def ahB(H H':Hp):Option Told->V->Prop
 |none,v=>v=.aK
 |some t,v=>∃q y,v=.ref q/\H q=Β/\H' q=Α (.tup [.int (t.sort:Nat),y])/\Aj H H' t y
inductive UK(K:FR)(vs:ay)(H:Hp)(Q:VK)(E':XK):Prop
 |mk (ap:Addr) (line:LI) (_:vs=[.ref ap]) (_:ã ap Æc) (_:line.L<=100000) (_:∀H' v,ai H H'->ahB H H' (kG line) v->Q v H')
def UL:LS:=["hoist","hoist above","hoist below","hoist above below"]
def UM:LS:=["square","tails","long","shape?"]
theorem Aj.same(h:Aj H H1 t v)(s:ai H1 H2):Aj H H2 t v:=by
 cases t with
 |side a l=>let(t,c,j,h2,m,z):=h;exact(t,c,j,h2,s _ _ m,s _ _ z)
 |hoist k=>exact h
 |shape k=>exact h
 |row l=>let(c,j,h2,m):=h;exact(c,j,h2,s _ _ m)
def ahC(F:Ai H H' (dZ line) v0)(J:LstAt H H' (kC line) v3)(m:[v0,oI ń,oI Ń,v3][i]? =Α x) (U:x≠ .aK) (hb:∀j y,j<i->[v0,oI ń,oI Ń,v3][j]? =Α y->y=.aK):
  ∃t,kG line=Α t/\t.sort=i/\Aj H H' t x:=by
 let W:v0=.aK->dZ line=Β:=λz=>by
  cases e:dZ line with
  |none=>rfl
  |some p=>
   rw[e] at F;let(t,c,O,_):=F;symm
 let Y:∀o:Option Nat,oI o=.aK->o=Β:=λo z=>by
  cases o with
  |none=>rfl
  |some k=>cases z
 match i,m with
 |0,m=>
  let ex:=aO m;subst ex;cases e:dZ line with
  |none=>rw[e] at F;exact absurd F U
  |some p=>
   rw[e] at F;let(t,c,O,h2,J,h4,h5):=F;refine⟨.side p.1 p.2,by ext kG;rw[e],rfl,t,c,O,J,h4,h5⟩
 |1,m=>
  let ex:=aO m;let Z:=W Æv;cases e:bC JM.iF line with
  |none=>rw[e] at ex;exact absurd ex.symm U
  |some k=>
   rw[e] at ex;exact(.hoist k,by ext kG;rw[Z,e],rfl,ex.symm)
 |2,m=>
  let ex:=aO m;let Z:=W Æv;let z1:=Y _ (hb 1 _ Å rfl);cases e:bC JM.iG line with
  |none=>rw[e] at ex;exact absurd ex.symm U
  |some k=>
   rw[e] at ex;exact(.shape k,by ext kG;rw[Z,z1,e],rfl,ex.symm)
 |3,m=>
  let ex:=aO m;subst ex;let Z:=W Æv;let z1:=Y _ (hb 1 _ Å rfl);let z2:=Y _ (hb 2 _ Å rfl);cases e:kC line with
  |none=>rw[e] at J;exact absurd J U
  |some l=>
   rw[e] at J;let(c,O,h2,h4):=J;exact(.row l,by ext kG;rw[Z,z1,z2,e];rfl,rfl,c,O,h2,h4)
 |i+4,m=>simp at m
def ahD(z:Ai H H' (dZ line) v0)(F:LstAt H H' (kC line) v3)(m:∀j y,j<4->[v0,oI ń,oI Ń,v3][j]? =Α y->y=.aK):kG line=Β:=by
 let U:=m 0 v0 Å rfl;let Z:=m 1 _ Å rfl;let J:=m 2 _ Å rfl;let W:=m 3 v3 Å rfl;ext kG;cases e:dZ line with
 |some p=>
  rw[e] at z;let(t,c,O,_):=z;symm
 |none=>
  cases e1:bC JM.iF line with
  |some k=>rw[e1] at Z;cases Z
  |none=>
   cases e2:bC JM.iG line with
   |some k=>rw[e2] at J;cases J
   |none=>
    cases e3:kC line with
    |some l=>
     rw[e3] at F;let(c,O,_):=F;symm
    |none=>rfl
theorem Ai.same(h:Ai H H1 o v)(j:ai H0 H)(s:ai H1 H2):Ai H0 H2 o v:=by
 cases o with
 |none=>exact h
 |some p=>let(t,c,m,h2,z,F,J):=h;exact(t,c,m,j.free h2,j.free z,s _ _ F,s _ _ J)
theorem LstAt.same(h:LstAt H H1 o v)(z:ai H0 H)(s:ai H1 H2):LstAt H0 H2 o v:=by
 cases o with
 |none=>exact h
 |some p=>let(c,j,h2,m):=h;exact(c,j,z.free h2,s _ _ m)
section
variable{P:Pg}{w:Wd}{K:FR}{mg:MG}{base:Heap}
def L9:bQ ["line","readings","sort","told"] ["line"] (aY K3):=cJ
def ahE(F:bx K "read_line" "read_line" K3 f fd)(tE:mg "enumerate"=Β)(cH:Tn K mg "HOIST_LINES" (UL.M V.str))(cS:Tn K mg "SEEN_SHAPES" (UM.M V.str))(dS:Ç 4 "read_side" ["line"] (UJ K)) (dA:Ç 2 "place_among" ["words","part"] (FS K)) (dR:Ç 3 "read_row" ["line"] (UI K)):
  ba P w K mg base aF 5 f fd ["line"] (UK K):=by
 let(aH,mH,hH):=cH;let(aS,mS,hS):=cS;refine F.ok L9 Â;let(ap,line,rfl,U,hl,k):=h;let n8:dJ 2 _:=hr.mono Ù;let CM:dJ 3 _:=hr.mono Ù;refine⟨_,aD (cy 1 L9.nd (uQ (ae (bH (hr:=hr) dS õ)
   (ae (bH (hr:=n8) dA (ae (vV (v:=.ref aH) Ò mH rfl) õ))
   (ae (bH (hr:=n8) dA (ae (vV (v:=.ref aS) Ò mS rfl) õ))
   (ae (bH (hr:=CM) dR õ) ah))))))
  (aD (ϒ (SU Ò tE Ŝ) (iM 2 3 L9.nd)
   (aE (dv (oS (IZ ú)) (aE (a0 (uQ (ae è Ĺ)))) eA)))
  ϋ),?_⟩
 apply(_,Á,ap,line,Á,U,hl,λH1 J s1 h0=>?_);apply(_,Á,aH,ap,UL,line,Á,hH H1,by decide,s1.seq U,λH2 s2=>?_);let fc:=s1.R s2;apply(_,Á,aS,ap,UM,line,Á,hS H2,by decide,fc.seq U,λH3 s3=>?_);let W:=fc.R s3;apply(_,Á,ap,line,Á,W.seq U,hl,λZ O s4 h3=>?_);let o6:=W.R s4;apply((by show 4<=sizeLine;decide),λtt UN=>?_);let s5:=fu (o:=.tup [J,oI ń,oI Ń,O]) o6 (o6.free UN);let sl:∀{H':Hp},ai (upd Z tt (.tup [J,oI ń,oI Ń,O])) H'->ai Z H':=λz=>(aN UN).R z;refine⟨_,Á,tt,[J,oI ń,oI Ń,O],Á,bz.of aq,SV (K:=K) (a:=tt) (xs:=[J,oI ń,oI Ń,O])
  (λi σ H'=>∃u2 u3:Option V,σ=[some Éb,some (.ref tt),u2,u3]/\ai (upd Z tt (.tup [J,oI ń,oI Ń,O])) H'/\∀j y,j<i->[J,oI ń,oI Ń,O][j]? =Α y->y=.aK)
  ⟨none,none,rfl,ai.refl _,λj y hj _=>absurd hj Å⟩ (λi σ H' _ ⟨_,_,_,m,_⟩=>ai.tup m (bz.of aq)) ?_ ?_⟩
 .rintro i x T σ H' hi ⟨u2,u3,rfl,m,hb⟩ hT;let Y:=fu (o:=.tup [.int (i:Nat),x]) m (m.free hT);refine⟨T,_,Á,bz.of aq,Á,_,_,Á,_,_,Á,Á,_,Á,_,Á,bc Ï Ï⟩
  .simp at hc;apply(_,Á,_,Á,(by show 2<=sizeLine;decide),λq hq=>?_);let s8:=fu (o:=.tup [.int (i:Nat),x]) Y (Y.free hq);let s9:=s5.R s8;let(t,et,es,ta):=ahC (h0.E ϊ (((s2.R s3).R s4).R (sl s8))) (h3.E W (sl s8)) hi hc hb;apply k _ Èy s9 ?_;rw[et];apply(q,x,Á,(s5.R Y).free hq,?_,ta);rw[aq,es]
  .simp at hc;apply(_,_,Á,Y,λj y hj hy=>?_);grind
 .rintro σ H' ⟨u2,u3,rfl,m,hb⟩;let en:=ahD (h0.E ϊ (((s2.R s3).R s4).R (sl m))) (h3.E W (sl m)) hb;exact k H' .aK (s5.R m) (by rw[en];rfl)
end
def lL(m:fT):Bool:=match m.ak.getLast? with
 |some g=>g.flags.isEmpty
 |none=>false
def jO(m:fT):Bool:=match m.ak.getLast? with
 |some g=>(match g.flags.getLast? with
  |some s=>decide (s.2.L<16)
  |none=>false)
 |none=>false
def qD(m:fT):Bool:=!m.ak.isEmpty&&(!lL m&& !jO m)
def dw(m:fT)(k:Nat):Bool:=
 if (m.classes.isEmpty||decide (k=0))=true then m.classes.isEmpty&&decide (k=0)
 else if (decide (k=3)||jO m)=true then decide (k=3)&&jO m
 else if decide (k=1)=true then decide (m.ak.L<4)&& !lL m
 else match m.ak.getLast? with
  |some g=>decide (g.flags.L<8)
  |none=>false
inductive qE(C:Cs)(b:fT->Bool)(vs:ay)(H:Hp)(Q:VK)(E':XK):Prop
 |mk (p:eS) (_:vs=[.ref p.a]) (_:Lies H Ám) (_:∀H',ai H H'->Q (.bl (b p.m)) H')
def qE.len:∀vs H Q E,qE C b vs H Q E->vs.L=(["plate"]:LS).L:=λvs H Q E h=>by
 let(p,rfl,_):=h;rfl
def ahF(h:m.ak=[]):lL m=false:=by ext lL;rw[h];rfl
def UO{p:eS}{gs:List cz}{g:cz}(h:p.ak=gs++[g]):lL p.m=g.flags.isEmpty:=by
 ext lL eS.m;rw[h,bZ,a8,mr,Bn,IC];show(g.flags.M eK.m).isEmpty=_;simp
def ahG(h:m.ak=[]):jO m=false:=by ext jO;rw[h];rfl
def ahH{p:eS}{gs:List cz}{g:cz}(h:p.ak=gs++[g])(j:g.flags=[]):jO p.m=false:=by
 ext jO eS.m;rw[h,bZ,a8,mr,Bn,IC];show(match (g.flags.M eK.m).getLast? with
  |some s=>decide (s.2.L<16)
  |none=>false)=_
 symm
def ahI{p:eS}{gs:List cz}{g:cz}{ss:List eK}{s:eK}(h:p.ak=gs++[g])(j:g.flags=ss++[s]):jO p.m=decide (s.cells.L<16):=by
 ext jO eS.m;rw[h,bZ,a8,mr,Bn,IC];show(match (g.flags.M eK.m).getLast? with
  |some s=>decide (s.2.L<16)
  |none=>false)=_
 rw[j,bZ,a8,mr,Bn,IC];rfl
section
variable{P:Pg}{w:Wd}{K:FR}{mg:MG}{base:Heap}{C:Cs}
def ahJ:bQ ["plate"] ["plate"] (aY K7):=cJ
def ahK(F:bx K "lacks_flags" "lacks_flags" K7 f fd)(T:ma K C):Ì aF 1 f fd ["plate"] (qE C lL):=by
 refine F.ok ahJ Â;let(p,rfl,L,k):=h;refine⟨_,aE (a0 (uP (jI Ãa ś Ļ (bW _))
  (sO (jI Ϻ Ĩ Ļ (bW _))))),?_⟩
 apply(_,Á,ů Åv ⟨du _,λe1 Y=>?_⟩);let j:ai H Åi:=aN Y;apply(p.gl,e1,_,Á,Á,aa.of (j _ _ L.gl),aa.of aq,_,Á,?_);rcases qA p.ak with e|⟨gs,g,e⟩
 .rw[e];apply nW ?_;let q:=k _ j;rw[ahF (by ext eS.m;rw[e];rfl)] at q;exact q
 .let O:g∈p.ak:=by rw[e];simp
  let z:=L.E j;let ne:(!(p.ak.M λg=>V.ref g.a).isEmpty)=true:=by rw[e,bZ];simp
  rw[ne];apply lJ ⟨_,Á,bh z.pl T.cP T.mX Åv ⟨_,Á,p.gl,_,_,V.ref g.a,Á,Á,aa.of z.gl,?_,bh ((z.sub O).ga) T.cG T.wU (wR g) ⟨du _,λW Z=>?_⟩⟩⟩
  .rw[e,bZ];exact wc _ _
  .let U:=fu (o:=.lst []) j (j.free Z);let J:=L.E U;apply(g.l,W,_,Á,Á,aa.of (J.sub O).fl,aa.of aq,?_);let q:=k _ U;rw[UO e] at q;symm
def ahM:bQ ["plate"] ["plate"] (aY K8):=cJ
def ahN(F:bx K "lacks_cells" "lacks_cells" K8 f fd)(T:ma K C)(tL:mg "len"=Β)(cC:Cn mg "CELLS" (.int 16))(dF:Ç 1 "lacks_flags" ["plate"] (qE C lL)):
  ba P w K mg base aF 2 f fd ["plate"] (qE C jO):=by
 refine F.ok ahM Â;let(p,rfl,L,k):=h;refine⟨_,aD (dv (PW.pt (pw_or (cV Ϻ ś Ļ (bW _)) (pw_or1 (jH (bH dF õ))))) Âg eA)
  (aE (a0 (jI xS (dc gf Ò tL PySem.boot_len (ae (bg (cQ c8 Ĩ (jt j6 bp) Ø) rfl) ah)) (cj cC) (bW _)))),?_⟩
 apply(_,Á,ů Åv ⟨du _,λe1 n1=>?_⟩);let W:ai H Åi:=aN n1;let Z:=L.E W;apply(p.gl,e1,_,Á,Á,aa.of Z.gl,aa.of aq,_,Á,?_);rcases qA p.ak with e|⟨gs,g,e⟩
 .rw[e];apply lJ ?_;let q:=k _ W;rw[ahG (by ext eS.m;rw[e];rfl)] at q;exact q
 .let O:g∈p.ak:=by rw[e];simp
  let ne:(p.ak.M λg=>V.ref g.a).isEmpty=false:=by rw[e,bZ];simp
  rw[ne];refine nW ⟨_,Á,p,Á,Z,λH2 s2=>Ĝ⟩;let Y:=W.R s2;let J:=L.E Y;rw[UO e];rcases qA g.flags with j|⟨ss,sg,j⟩
  .rw[j];apply lJ ?_;let q:=k _ Y;rw[ahH e j] at q;exact q
  .let hs:sg∈g.flags:=by rw[j];simp
   let U:g.flags.isEmpty=false:=by rw[j];simp
   rw[U];apply nW ⟨_,Á,bh J.pl T.cP T.mX Åv ⟨_,Á,p.gl,_,_,V.ref g.a,Á,Á,aa.of J.gl,?_,bh ((J.sub O).ga) T.cG T.wU (wR g) ⟨_,Á,g.l,_,_,V.ref sg.a,Á,Á,aa.of (J.sub O).fl,?_,bh (((J.sub O).Ag hs).sa) T.cS T.FV (FU sg) ⟨sg.l,_,Á,.inl (aa.of ((J.sub O).Ag hs).sl),_,_,Á,Á,?_⟩⟩⟩⟩
   .rw[e,bZ];exact wc _ _
   .rw[j,bZ];exact wc _ _
   .let q:=k _ Y;rw[ahI e j] at q;show Q (V.bl (decide ((((iv sg.cells).L:Nat):Int)<16))) H2;rw[fb,show decide (((sg.cells.L:Nat):Int)<16)=decide (sg.cells.L<16) by
     by_cases z:sg.cells.L<16
     .rw[eN z,eN Ô]
     .rw[fZ z,fZ á]]
    exact q
def ahO:bQ ["plate"] ["plate"] (aY K9):=cJ
def ahP(F:bx K "has_whole_hoists" "has_whole_hoists" K9 f fd)(T:ma K C)(J:Ç 1 "lacks_flags" ["plate"] (qE C lL))(z:Ç 2 "lacks_cells" ["plate"] (qE C jO)):
  ba P w K mg base aF 3 f fd ["plate"] (qE C qD):=by
 refine F.ok ahO Â;let(p,rfl,L,k):=h;refine⟨_,aE (a0 (uP (jI Ãa ś Ļ (bW _))
  (uP (BE (bH J õ)) (sO (BE (bH z õ)))))),?_⟩
 apply(_,Á,ů Åv ⟨du _,λe1 O=>?_⟩);let s1:ai H Åi:=aN O;let j:=L.E s1;apply(p.gl,e1,_,Á,Á,aa.of j.gl,aa.of aq,_,Á,?_);let Z:p.m.ak.isEmpty=p.ak.isEmpty:=by ext eS.m;cases p.ak <;> rfl
 rw[show(p.ak.M λg=>V.ref g.a).isEmpty=p.ak.isEmpty by simp];refine bc Ï Ï
 .refine⟨_,Á,p,Á,j,λW s2=>⟨_,Á,_,Á,bc Ġ Ġ⟩⟩
  .refine⟨_,Á,p,Á,j.E s2,λY U=>Ĝ⟩;let q:=k _ ((s1.R s2).R U);delta qD at q;lia
  .let q:=k _ Áe;delta qD at q;symm
 .let q:=k _ s1;delta qD at q;symm
inductive UP(C:Cs)(vs:ay)(H:Hp)(Q:VK)(E':XK):Prop
 |mk (p:eS) (n:Nat) (_:vs=[.ref p.a,.int (n:Nat)]) (_:Lies H Ám) (_:∀H',ai H H'->Q (.bl (dw p.m n)) H')
def ahQ:bQ ["plate","sort"] ["plate","sort"] (aY K6):=cJ
def F2(a b:Nat):decide (V.int (a:Nat)=V.int (b:Nat))=decide (a=b):=by
 grind
def dec_lt(a b:Nat):decide (((a:Nat):Int)<((b:Nat):Int))=decide (a<b):=by
 simp
def ahR(F:bx K "may_stand" "may_stand" K6 f fd)(T:ma K C)(tL:mg "len"=Β)(c0:Cn mg "SIDE_LINE" ő)(c1:Cn mg "HOIST_LINE" ŧ)(c3:Cn mg "CELLS_LINE" (.int 3))(cH:Cn mg "MOST_HOISTS" (.int 4))(cF:Cn mg "MOST_FLAGS" (.int 8))(dF:Ç 1 "lacks_flags" ["plate"] (qE C lL)) (dC:Ç 2 "lacks_cells" ["plate"] (qE C jO)):
  ba P w K mg base aF 3 f fd ["plate","sort"] (UP C):=by
 refine F.ok ahQ Â;let(p,n,rfl,L,k):=h;refine⟨_,aD (dv (PW.pt (pw_or (cV Ϻ ś Ļ (bW _)) (pw_or1 (cV ir â (cj c0) (bW _)))))
   (aE (a0 (uP (jI Ϻ ċ Ļ (bW _)) (sO (jI ir â (cj c0) (bW _)))))) eA)
  (aD (dv (PW.pt (pw_or (cV ir â (cj c3) (bW _)) (pw_or1 (jH (bH dC õ)))))
   (aE (a0 (uP (jI ir â (cj c3) (bW _)) (sO (bH dC õ))))) eA)
  (aD (dv (cV ir â (cj c1) (bW _))
   (aE (a0 (uP (jI xS (dc gf Ò tL PySem.boot_len Äx) (cj cH) (bW _)) (sO (BE (bH dF õ)))))) eA)
  (aE (a0 (uP (jI Ãa ċ Ļ (bW _)) (sO (jI xS (dc gf Ò tL PySem.boot_len (ae Ĩ ah)) (cj cF) (bW _)))))))),?_⟩
 let ec:p.m.classes.isEmpty=(iv p.classes).isEmpty:=by ext eS.m iv;cases p.classes <;> rfl
 apply(_,Á,bh L.pl T.cP T.FW (LY p) ⟨du _,λe1 n1=>?_⟩);let s1:ai H Åi:=aN n1;let Z:=L.E s1;apply(p.cl,e1,_,Á,Á,aa.of Z.cl,aa.of aq,_,Á,?_);rw[<-ec];let first:∀H1,ai H H1->(p.m.classes.isEmpty||decide (n=0))=true->BG (Jb (bV (S4 K) (f7 K ύ "classes") (zH dQ)) (bV oW Ϟ Äh)) {nx:=λ_ H'=>Q .aK H',rt:=Q} [some Ãb,some (.int (n:Nat))] H1:=λH1 z hc=>by
  let M1:=L.E z;apply(_,Á,bh M1.pl T.cP T.FW (LY p) ⟨du _,λe2 n2=>?_⟩);let t2:=fu (o:=.lst []) z (z.free n2);apply(p.cl,e2,_,Á,Á,aa.of (L.E t2).cl,aa.of aq,_,Á,?_);rw[<-ec];let q:=k _ t2;delta dw at q;rw[af hc] at q;refine bc Ġ Ġ
  .apply(_,Á,Á,?_);symm
  .symm
 refine bc (λhc=>first _ s1 Å) Ï;let hc:p.m.classes.isEmpty=false:=À hc
 refine ŷ;rw[show V.int 0=V.int ((0:Nat):Int) from rfl,F2];refine bc (λhd=>first _ s1 Å) Ġ;let hd:decide (n=0)=false:=À hd
 let Ze:∀H1,ai H H1->(decide (n=3)||jO p.m)=true->BG (Jb (bV oW Ϟ (tC (.int 3))) (ic (qE C jO) [] E0 (bo ύ dQ))) {nx:=λ_ H'=>Q .aK H',rt:=Q} [some Ãb,some (.int (n:Nat))] H1:=λH1 z h2=>by
  refine ŷ;rw[show V.int 3=V.int ((3:Nat):Int) from rfl,F2];apply bc (λj=>⟨_,Á,p,Á,L.E z,λH2 t2=>?_⟩) (λj=>?_)
  .let q:=k _ (z.R t2);delta dw at q;symm
  .simp at j;let q:=k _ z;delta dw at q;symm
 refine ŷ;rw[show V.int 3=V.int ((3:Nat):Int) from rfl,F2];apply bc (λj=>Ze _ s1 Å) (λj=>⟨_,Á,p,Á,Z,λH2 s2=>⟨_,Á,bc (λW=>Ze _ Áe Å) (λW=>?_)⟩⟩);let j:decide (n=3)=false:=À j
 simp at W;let U:=s1.R s2;let bT:∀H',ai H H'->Q (.bl (if decide (n=1)=true then decide (p.m.ak.L<4)&& !lL p.m else match p.m.ak.getLast? with
  |some g=>decide (g.flags.L<8)
  |none=>false)) H':=λH' t=>by
  let q:=k _ t;delta dw at q;rw[hc,hd,Bool.or_self,ag d8,j,W,Bool.or_self,ag d8] at q;exact q
 let O:=L.E U;refine ŷ;rw[show V.int 1=V.int ((1:Nat):Int) from rfl,F2];refine bc Ū Ū
 .apply(_,Á,bh O.pl T.cP T.mX Åv ⟨p.gl,_,Á,.inl (aa.of O.gl),_,_,Á,Á,_,Á,?_⟩);let e4:decide ((((p.ak.M λg=>V.ref g.a).L:Nat):Int)<4)=decide (p.m.ak.L<4):=by
   rw[show(4:Int)=((4:Nat):Int) from rfl,dec_lt];ext eS.m;simp
  rw[e4];apply bc (λh5=>⟨_,Á,p,Á,O,λH3 s4=>Ĝ⟩) (λh5=>?_)
  .let q:=bT _ (U.R s4);symm
  .symm
 .apply(_,Á,bh O.pl T.cP T.mX Åv ⟨du _,λe5 n5=>?_⟩);let Y:=fu (o:=.lst []) U (U.free n5);let J:=L.E Y;apply(p.gl,e5,_,Á,Á,aa.of J.gl,aa.of aq,_,Á,?_);rcases qA p.ak with e|⟨gs,g,e⟩
  .rw[e];apply nW ?_;let q:=bT _ Y;rw[ag h1,show p.m.ak=[] by ext eS.m;rw[e];rfl] at q;symm
  .let hg:g∈p.ak:=by rw[e];simp
   let ne:(!(p.ak.M λg=>V.ref g.a).isEmpty)=true:=by rw[e,bZ];simp
   rw[ne];apply lJ ⟨_,Á,bh J.pl T.cP T.mX Åv ⟨_,Á,p.gl,_,_,V.ref g.a,Á,Á,aa.of J.gl,?_,bh ((J.sub hg).ga) T.cG T.wU (wR g) ⟨g.l,_,Á,.inl (aa.of (J.sub hg).fl),_,_,Á,Á,?_⟩⟩⟩
   .rw[e,bZ];exact wc _ _
   .let q:=bT _ Y;let eg:p.m.ak.getLast?=Α g.m:=by
     ext eS.m;symm
    rw[ag h1,eg] at q;show Q (V.bl (decide ((((g.flags.M λs=>V.ref s.a).L:Nat):Int)<((8:Nat):Int)))) _;rw[dec_lt,az];let e6:g.m.flags.L=g.flags.L:=by ext cz.m;simp only[az]
    symm
end
def rS(m:fT):Told->fT
 |.side s l=>⟨s,l,m.ak⟩
 |.hoist k=>⟨m.side,m.classes,m.ak++[⟨decide (k%2=1),decide (k/2=1),[]⟩]⟩
 |.shape k=>⟨m.side,m.classes,m.ak.dropLast++(m.ak.getLast?.M λg=>(⟨g.above,g.below,g.flags++[(k,[])]⟩:iP)).toList⟩
 |.row l=>⟨m.side,m.classes,m.ak.dropLast++(m.ak.getLast?.M λg=>(⟨g.above,g.below,g.flags.dropLast++(g.flags.getLast?.M λs=>(s.1,s.2++l)).toList⟩:iP)).toList⟩
structure Rep(C:Cs)(H:Hp)(p:eS):Prop where
 lies:Lies H Ám
 nd:((eM C p).M (·.1)).Nodup
def UQ(h:dw m 1=true):m.ak.L<4:=by
 delta dw at h;symm
def ahS{m:fT}(h:dw m 2=true):∃g,m.ak.getLast?=Α g/\g.flags.L<8:=by
 delta dw at h;split at h
 .simp at h
 .split at h
  .simp at h
  .split at h
   .rename_i z;exact absurd z Ù
   .split at h
    .rename_i g e;exact(g,e,À h)
    .cases h
def ahT{m:fT}(h:dw m 3=true):∃g s,m.ak.getLast?=Α g/\g.flags.getLast?=Α s/\s.2.L<16:=by
 delta dw at h;split at h
 .simp at h
 .split at h
  .simp at h;delta jO at h;split at h
   .rename_i g e;split at h
    .rename_i s j;exact(g,s,e,j,À h)
    .cases h
   .cases h
  .rename_i z h2;exact absurd Ä h2
def Ma{α β:Type}{f:α->β}{l:List α}{y:β}(h:(l.M f).getLast?=Α y):∃r x,l=r++[x]/\f x=y:=by
 rcases qA l with e|⟨r,x,e⟩
 .rw[e] at h;cases h
 .apply(r,x,e,?_);rw[e,bZ,a8,mr,Bn,IC] at h;exact aO h
inductive UR(C:Cs)(vs:ay)(H:Hp)(Q:VK)(E':XK):Prop
 |mk (p:eS) (t:Told) (v:V) (H0:Hp) (_:vs=[.ref p.a,.int (t.sort:Nat),v]) (_:Rep C H p) (_:ai H0 H) (_:Lies H0 Ám) (_:Aj H0 H t v) (_:(∀l,t=.row l->l.L=4)) (_:dw p.m t.sort=true) (_:∀H' p',p'.a=p.a->p'.m=rS p.m t->Rep C H' p'->(∀b o,H b=Α o->b∉(eM C p).M (·.1)->H' b=Α o)->(∀b,b∈(eM C p').M (·.1)->b∈(eM C p).M (·.1)\/H0 b=Β)->Q .aK H')
def ahU(h:Lies H ns)(j:b∈ns.M (·.1)):∃o,H b=Α o:=by
 let(x,m,rfl):=b9.mp j;exact(_,h x m)
def CO(h:Lies H ns)(j:H b=Β):b∉ns.M (·.1):=λz=>by
 let(o,e):=ahU h z;symm
def Mb(L:Lies H (A++(b,o)::B))(nd:((A++(b,o)::B).M (·.1)).Nodup)(keep:∀c u,H c=Α u->c≠b->H2 c=Α u)(U:H2 b=Α o')(m:Lies H2 N):
  Lies H2 (A++(b,o')::(B++N)):=λx j=>by
 rw[bZ,a8] at nd;let(W,F,J):=Iv.mp nd;let(O,Y):=jZ.mp F;rcases gM.mp j with j|j
 .exact keep _ _ (L x (Bh _ j)) (J x.1 (b9.mpr ⟨x,j,Á⟩) b gn)
 .rcases aV.mp j with rfl|j
  .omega
  .rcases gM.mp j with j|j
   .exact keep _ _ (L x (uI _ (aQ _ j))) λz=>O (by grind)
   .exact m x j
def Mc{A B N:List Nd}{b:Addr}{o O:HO}(nd:((A++(b,o)::B).M (·.1)).Nodup)(j:(N.M (·.1)).Nodup)(hd:∀c,c∈N.M (·.1)->c∉(A++(b,o)::B).M (·.1)):((A++(b,O)::(B++N)).M (·.1)).Nodup:=by
 let e:(A++(b,O)::(B++N)).M (·.1)=(A++(b,o)::B).M (·.1)++N.M (·.1):=by simp
 rw[e];exact Iv.mpr ⟨nd,j,λx m y F z=>hd y F (by rw[<-z];exact m)⟩
def Md{A B N:List Nd}{b:Addr}{o O:HO}{c:Addr}(h:c∈(A++(b,O)::(B++N)).M (·.1)):c∈(A++(b,o)::B).M (·.1)\/c∈N.M (·.1):=by
 grind
def US{gs:List cz}{g g':cz}(h:g.a=g'.a):((gs++[g]).M λg=>V.ref g.a)=(gs++[g']).M λg=>V.ref g.a:=by
 symm
def ahV{ss:List eK}{s s':eK}(h:s.a=s'.a):((ss++[s]).M λs=>V.ref s.a)=(ss++[s']).M λs=>V.ref s.a:=by
 symm
section
variable{P:Pg}{w:Wd}{K:FR}{mg:MG}{base:Heap}{C:Cs}
def ahW:bQ ["plate","sort","told"] ["plate","sort","told"] (aY La):=cJ
def ahX(k:Nat):decide (V.int (((k:Nat):Int)%2)=V.int 1)=decide (k%2=1):=by
 grind
def ahY(k:Nat):decide (V.int (((k:Nat):Int)/2)=V.int 1)=decide (k/2=1):=by
 grind
def ahZ{f:Addr}{fd:FD}(F:bx K "put" "put" La f fd)(T:ma K C)(c0:Cn mg "SIDE_LINE" ő)(c1:Cn mg "HOIST_LINE" ŧ)(c2:Cn mg "SHAPE_LINE" (.int 2))(dG:ć "Glimpse" C.G ["above","below","flags"]) (dS:ć "Sighting" C.S ["shape","cells"]):Ì aF 3 f fd ["plate","sort","told"] (UR C):=by
 refine F.ok ahW Â;let(p,t,v,H0,rfl,R,s0,L0,ta,h4,Z,k):=h;refine⟨_,aE (dv (cV ir â (cj c0) (bW _))
   (aD (fg Ú (cQ zK è bp Ø) rfl) (aE (fg Ú (cQ zK è bp Ø) rfl)))
  (aE (dv (cV ir â (cj c1) (bW _))
   (aE (sQ (Þ ċ (ae (qB dG hr
    (ae (jI ir (eP Jk è bp) bp (bW _)) (ae (jI ir (eP abv è bp) bp (bW _)) Äw))) ah))))
  (aE (dv (cV ir â (cj c2) (bW _))
   (aE (sQ (Þ Ĩ (ae (qB dS hr
    (ae è Äw)) ah))))
   (aE (sQ (sW PySem.F.plainAttrs_list PySem.F.slot_list_extend PySem.F.type_list_extend RG (bg (cQ c8 Ĩ (jt j6 bp) Ø) rfl) ū)))))))),?_⟩
 let L:=R.lies;cases t with
 |side sd l=>
  let(tt,c,rfl,UT,ht,hc):=ta;refine ϶;apply(_,Á,tt,_,0,_,Á,Á,bz.of ht,Á,_,Á,p.a,C.P,p.dx,_,Á,L.pl,T.cP,T.L6,(by show 3<1000;decide),?_);let nta:=QO ht L.pl Ä;apply(_,Á,tt,_,1,_,Á,Á,bz.of (by rw[ao nta];exact ht),Á,_,Á,p.a,C.P,p.dx,_,Á,aq,T.cP,T.FW,?_,?_)
  .exact oN (Jr _ _ _) (by show 4<1000;decide)
  .let UU:=CO L0 UT;let Ak:p.a∈(eM C p).M (·.1):=by ext eM;simp
   let Ac:c≠p.a:=λz=>UU Å;let nd:=R.nd;let UV:=(jZ.mp nd);let nd2:=(jZ.mp UV.2);let sub:∀b,b∈((p.gl,HO.lst (p.ak.M λg=>V.ref g.a))::p.ak.flatMap Åw).M (·.1)->b∈(eM C p).M (·.1):=λb hb=>aQ _ (aQ _ hb);apply k _ {p with cl:=c,side:=sd,classes:=l} Á Á ⟨λx hx=>?_,?_⟩ Âq đ
   .let hx:x∈(p.a,HO.ins C.P p.dx (l9 {p with cl:=c,side:=sd,classes:=l}))::(c,HO.lst (iv l))::((p.gl,HO.lst (p.ak.M λg=>V.ref g.a))::p.ak.flatMap Åw):=hx;rcases aV.mp hx with rfl|hx
    .rw[aq];rfl
    .rcases aV.mp hx with rfl|hx
     .rw[ao Ac,ao Ac];omega
     .let kH:x.1≠p.a:=λz=>UV.1 (by grind);rw[ao kH,ao kH];exact L x (aQ _ (aQ _ hx))
   .apply jZ.mpr ⟨λz=>?_,jZ.mpr ⟨λz=>UU (sub c z),nd2.2⟩⟩;grind
   .rw[ao (λz=>nb Å),ao (λz=>nb Å)];omega
   .rcases aV.mp hb with z|z
    .symm
    .grind
 |hoist n=>
  obtain rfl:v=V.int (n:Nat):=ta;let W:=UQ Z;refine⟨_,Á,Á,_,Á,ite_no (show ¬V.int ((1:Nat):Int)=V.int 0 by decide) ϶⟩;apply(_,Á,ů Åv ⟨.inl ⟨Á,_,aa.of L.gl⟩,_,Á,_,_,Á,Á,Å,Á,_,Á,_,_,Á,Á,⟨by decide,by decide⟩,Á,du _,λl Y=>?_⟩);intro x dx hx jf aU;refine⟨x,dx,_,Á,Á,aq,λH2 h2 k2=>Ŷ⟩;let s1:ai H (Ϣ ä):=aN Y;let s2:=ai.made hx jf k2;let s3:=s1.R s2;let hlx:l≠x:=λz=>by rw[<-z,aq] at hx;cases hx
  let ju:=s2 _ _ aq;apply(p.gl,_,_,Á,Á,s3 _ _ L.gl,?_,?_)
  .rw[az];delta eS.m at W;simp only[az] at W;exact g9 Ô
  .let j:eM C p=[(p.a,.ins C.P p.dx (l9 p)),(p.cl,.lst Ŗ)]++(p.gl,.lst (p.ak.M λg=>V.ref g.a))::p.ak.flatMap Åw:=rfl;let J:eM C {p with ak:=p.ak++[⟨x,dx,l,decide (n%2=1),decide (n/2=1),[]⟩]}=[(p.a,.ins C.P p.dx (l9 p)),(p.cl,.lst Ŗ)]++(p.gl,.lst ((p.ak++[(⟨x,dx,l,decide (n%2=1),decide (n/2=1),[]⟩:cz)]).M λg=>V.ref g.a))::(p.ak.flatMap Åw++[(x,.ins C.G dx (qz ⟨x,dx,l,decide (n%2=1),decide (n/2=1),[]⟩)),(l,.lst [])]):=by
    show(p.a,HO.ins C.P p.dx (l9 p))::(p.cl,HO.lst Ŗ)::(p.gl,_)::(p.ak++[_]).flatMap Åw=_;rw[Bo];rfl
   let Me:=CO L Æp;let Mf:=CO L Y;let F3:p.gl∈(eM C p).M (·.1):=by ext eM;simp
   let Mg:x≠p.gl:=λz=>Me Å;let Al:l≠p.gl:=λz=>Mf Å;apply k _ {p with ak:=p.ak++[⟨x,dx,l,decide (n%2=1),decide (n/2=1),[]⟩]} Á ?_ Áp Âq đ
   .ext eS.m rS;rw[bZ];rfl
   .rw[J];apply Mb (H:=H) (by assumption) (by rw[<-j];exact R.nd) (λc u e hc=>by rw[ao hc];exact s3 _ _ e) ?_ Ϫ
    .rw[aq,bZ];rfl
    .rcases aV.mp hy with rfl|hy;rotate_left;obtain rfl:=lg.mp hy;rotate_left
     .rw[ao Mg,h2];apply cw (λz=>some (HO.ins C.G dx z)) ?_;rw[ahX,ahY];rfl
     .rw[ao Al];omega
   .rw[J];apply Mc (by rw[<-j];exact R.nd) (by grind) (λc hc=>?_);grind
   .rw[ao (λz=>nb Å)];exact s3 _ _ e
   .rw[J] at hb;rcases Md hb with hb|hb
    .exact .inl hb
    .simp at hb;rcases hb with rfl|rfl
     .exact .inr (s0.free Æp)
     .exact .inr (s0.free Y)
 |shape n=>
  obtain rfl:v=V.int (n:Nat):=ta;let(gm,eg,W):=ahS Z;let(gs,g,U,rfl):=Ma eg;let O:g∈p.ak:=by rw[U];simp
  refine⟨_,Á,Á,_,Á,ite_no (show ¬V.int ((2:Nat):Int)=V.int 0 by decide) ⟨_,Á,Á,_,Á,ite_no (show ¬V.int ((2:Nat):Int)=V.int 1 by decide) ϶⟩⟩;apply(_,Á,ů Åv ⟨_,Á,p.gl,_,_,V.ref g.a,Á,Á,aa.of L.gl,?_,bh ((L.sub O).ga) T.cG T.wU (wR g) ⟨.inl ⟨Á,_,aa.of (L.sub O).fl⟩,_,Á,du _,λl Y=>?_⟩⟩)
  .rw[U,bZ];exact wc _ _
  intro x dx hx jf aU;refine⟨x,dx,_,Á,Á,aq,λH2 h2 k2=>Ŷ⟩;let s1:ai H (Ϣ ä):=aN Y;let s2:=ai.made hx jf k2;let s3:=s1.R s2;let hlx:l≠x:=λz=>by rw[<-z,aq] at hx;cases hx
  let ju:=s2 _ _ aq;apply(g.l,_,_,Á,Á,s3 _ _ (L.sub O).fl,?_,?_)
  .rw[az];delta cz.m at W;simp only[az] at W;exact g9 Ô
  .let j:eM C p=((p.a,.ins C.P p.dx (l9 p))::(p.cl,.lst Ŗ)::(p.gl,.lst (p.ak.M λg=>V.ref g.a))::(gs.flatMap Åw++[(g.a,.ins C.G g.dx (qz g))]))++(g.l,.lst (g.flags.M λs=>V.ref s.a))::g.flags.flatMap (iA C):=by
    ext eM;rw[show p.ak.flatMap Åw=gs.flatMap Åw++gE C g by simp_all];ext gE;simp
   let J:eM C {p with ak:=gs++[{g with flags:=g.flags++[⟨x,dx,l,n,[]⟩]}]}=((p.a,.ins C.P p.dx (l9 p))::(p.cl,.lst Ŗ)::(p.gl,.lst (p.ak.M λg=>V.ref g.a))::(gs.flatMap Åw++[(g.a,.ins C.G g.dx (qz g))]))++(g.l,.lst ((g.flags++[(⟨x,dx,l,n,[]⟩:eK)]).M λs=>V.ref s.a))::(g.flags.flatMap (iA C)++[(x,.ins C.S dx (wQ ⟨x,dx,l,n,[]⟩)),(l,.lst [])]):=by
    ext eM;rw[Bo,U,US (gs:=gs) (g:=g) (g':={g with flags:=g.flags++[⟨x,dx,l,n,[]⟩]}) rfl];simp[gE,Bo,l9,qz,iA,iv]
   let Me:=CO L Æp;let Mf:=CO L Y;let F3:g.l∈(eM C p).M (·.1):=by rw[j];simp
   let Mg:x≠g.l:=λz=>Me Å;let Al:l≠g.l:=λz=>Mf Å;apply k _ {p with ak:=gs++[{g with flags:=g.flags++[⟨x,dx,l,n,[]⟩]}]} Á ?_ Áp Âq đ
   .ext eS.m rS;simp[cz.m,eK.m,U,Bn]
   .rw[J];apply Mb (H:=H) (by rw[<-j];exact L) (by rw[<-j];exact R.nd) (λc u e hc=>by rw[ao hc];exact s3 _ _ e) ?_ Ϫ
    .rw[aq,bZ];rfl
    .rcases aV.mp hy with rfl|hy;rotate_left;obtain rfl:=lg.mp hy;rotate_left
     .rw[ao Mg,h2];rfl
     .rw[ao Al];omega
   .rw[J];apply Mc (by rw[<-j];exact R.nd) (by grind) (λc hc=>?_);simp at hc;rw[<-j];rcases hc with rfl|rfl
    .omega
    .omega
   .rw[ao (λz=>nb (by rw[z];exact F3))];exact s3 _ _ e
   .rw[J] at hb;rcases Md hb with hb|hb
    .exact .inl (by rw[j];exact hb)
    .simp at hb;rcases hb with rfl|rfl
     .exact .inr (s0.free Æp)
     .exact .inr (s0.free Y)
 |row l=>
  let(c,rfl,UT,hc):=ta;let(gm,sm,eg,es,W):=ahT Z;let(gs,g,U,rfl):=Ma (show(p.ak.M cz.m).getLast?=Α gm from eg);let(ss,sg,F4,rfl):=Ma (show(g.flags.M eK.m).getLast?=Α sm from es);let O:g∈p.ak:=by rw[U];simp
  let hs:sg∈g.flags:=by rw[F4];simp
  let Mh:=h4 l rfl;apply(_,Á,Á,_,Á,ite_no (show ¬V.int ((3:Nat):Int)=V.int 0 by decide) ⟨_,Á,Á,_,Á,ite_no (show ¬V.int ((3:Nat):Int)=V.int 1 by decide) ⟨_,Á,Á,_,Á,ite_no (show ¬V.int ((3:Nat):Int)=V.int 2 by decide) ?_⟩⟩);apply(_,Á,ů Åv ⟨_,Á,p.gl,_,_,V.ref g.a,Á,Á,aa.of L.gl,?_,bh ((L.sub O).ga) T.cG T.wU (wR g) ⟨_,Á,g.l,_,_,V.ref sg.a,Á,Á,aa.of (L.sub O).fl,?_,bh (((L.sub O).Ag hs).sa) T.cS T.FV (FU sg) ⟨.inl ⟨Á,_,aa.of ((L.sub O).Ag hs).sl⟩,_,Á,sg.l,c,_,_,Á,Á,((L.sub O).Ag hs).sl,hc,?_,?_⟩⟩⟩)
  .rw[U,bZ];exact wc _ _
  .rw[F4,bZ];exact wc _ _
  .let:sg.cells.L<16:=W;rw[fb,fb,Mh];exact qU (g9 Ô)
  .let j:eM C p=((p.a,.ins C.P p.dx (l9 p))::(p.cl,.lst Ŗ)::(p.gl,.lst (p.ak.M λg=>V.ref g.a))::(gs.flatMap Åw++((g.a,.ins C.G g.dx (qz g))::(g.l,.lst (g.flags.M λs=>V.ref s.a))::(ss.flatMap (iA C)++[(sg.a,.ins C.S sg.dx (wQ sg))]))))++(sg.l,.lst (iv sg.cells))::[]:=by
    ext eM;rw[show p.ak.flatMap Åw=gs.flatMap Åw++gE C g by simp_all];ext gE;rw[show g.flags.flatMap (iA C)=ss.flatMap (iA C)++iA C sg by simp_all];simp[iA]
   let J:eM C {p with ak:=gs++[{g with flags:=ss++[{sg with cells:=sg.cells++l}]}]}=((p.a,.ins C.P p.dx (l9 p))::(p.cl,.lst Ŗ)::(p.gl,.lst (p.ak.M λg=>V.ref g.a))::(gs.flatMap Åw++((g.a,.ins C.G g.dx (qz g))::(g.l,.lst (g.flags.M λs=>V.ref s.a))::(ss.flatMap (iA C)++[(sg.a,.ins C.S sg.dx (wQ sg))]))))++(sg.l,.lst (iv (sg.cells++l)))::([]++[]):=by
    ext eM;dsimp only;rw[Bo,U,US (gs:=gs) (g:=g) (g':={g with flags:=ss++[{sg with cells:=sg.cells++l}]}) rfl,F4,ahV (ss:=ss) (s:=sg) (s':={sg with cells:=sg.cells++l}) rfl];simp[gE,Bo,l9,qz,iA,wQ]
   let F3:sg.l∈(eM C p).M (·.1):=by rw[j];simp
   apply k _ {p with ak:=gs++[{g with flags:=ss++[{sg with cells:=sg.cells++l}]}]} Á ?_ Áp Âq đ
   .ext eS.m rS;dsimp only;simp[cz.m,eK.m,U,F4,Bn]
   .rw[J];apply Mb (H:=H) (by rw[<-j];exact L) (by rw[<-j];exact R.nd) (λc u e hc=>by rw[ao hc];exact e) ?_ (λy hy=>absurd hy Ä);rw[aq];simp
   .rw[J];exact Mc (by rw[<-j];exact R.nd) Ä Ä
   .rw[ao (λz=>nb (by rw[z];exact F3))];omega
   .rw[J] at hb;rcases Md hb with hb|hb
    .exact .inl (by rw[j];exact hb)
    .exact absurd hb Ä
end
def Mi(k l:Nat):List (Str×V):=[("kind",.int (k:Nat)),("line",.int (l:Nat))]
structure F5(K:FR)(mg:MG)(C N:Addr):Prop where
 c:XC K C N
 ah3:E7 K N "kind"
 ah4:E7 K N "line"
 mC:mg "NoPlate"=Α ą
 keep:PySem.W.keepIn K ą=true
inductive Mj(C:Addr)(vs:ay)(H:Hp)(Q:VK)(E':XK):Prop
 |mk (x:Addr) (k l:Nat) (_:vs=[.ref x,.int (k:Nat),.int (l:Nat)]) (_:H x=Α Ř) (_:∀H' d,H' x=Α (exc C (some d) .none x)->d≠x->H' d=Α (u4 d (Mi k l))->(∀b o,H b=Α o->b≠x->H' b=Α o)->Q .aK H')
def UW(P:Pg)(w:Wd)(K:FR)(mg:MG)(base:Heap)(C N:Addr):Prop:=
 ∃f fd,F5 K mg C N/\PySem.W.nsIn K N "__init__"=Α Âc/\PySem.W.isFn K Ć=true/\Ì aF 1 f fd ["self","kind","line"] (Mj C)/\L2.Binds K fd ["self","kind","line"] []
section
variable{P:Pg}{w:Wd}{K:FR}{mg:MG}{base:Heap}{C:Cs}{CN N:Addr}
def ah5:typeOf (.type "Exception")=pure (.type "type"):=by rfl
def ah6:bQ ["self","kind","line"] ["self","kind","line"] (aY K1):=cJ
def ah7(F:bx K "__init__" "NoPlate.__init__" K1 f fd)(T:F5 K mg CN N)(J:mg "Exception"=Β)(z:PySem.W.findCls K (.type "Exception") (.type "type") "__init__"=Α (.val (.builtin "Exception.__init__"))):
  ba P w K mg base aF 1 f fd ["self","kind","line"] (Mj CN):=by
 refine F.ok ah6 Â;let(x,n,l,rfl,j,k):=h;apply(_,aD (sQ (aed Ò J z õ ah5 È È)) (aD (aeg Ú â Á) (aE (aei Ú è Á))),?_);apply(_,Á,x,CN,N,_,_,Á,j,T.c,_,Á,_,Á,x,CN,N,_,Á,j,T.c,T.ah3,λd hd aU=>?_);apply(_,Á,_,Á,x,CN,N,d,_,_,Á,(by rw[ao Åp];exact aq),aU,aq,(by show 1<1000;decide),T.c,T.ah4,?_);apply k _ d (by rw[ao Åp,ao Åp];exact aq) aU ?_ λb o e m=>?_
 .rw[aq];rfl
 .let U:=eO e hd;rw[ao U,ao U,ao m];exact e
def mZ:Nat->fT->dm->Except (Nat×Nat) fT
 |_,m,[]=>.ok m
 |i,m,w::r=>match kG w with
  |none=>.error (1,i)
  |some t=>if dw m t.sort=true then mZ (i+1) (rS m t) r else .error (2,i)
def gW(j:LI):Except (Nat×Nat) fT:=match mZ 0 ⟨0,[],[]⟩ (JM.aJ 10 j).dropLast with
 |.error e=>.error e
 |.ok m=>if j=[]\/(JM.aJ 10 j).getLastD []≠[] then .error (1,(JM.aJ 10 j).dropLast.length) else if qD m=true then .ok m else .error (2,(JM.aJ 10 j).dropLast.length)
inductive UY(K:FR)(C:Cs)(CN:Addr)(vs:ay)(H:Hp)(Q:VK)(E:XK):Prop
 |mk (ap:Addr) (bI:LI) (_:vs=[.ref ap]) (_:ã ap (iv bI)) (_:bI.L<=66000) (_:(∀m,gW bI=.ok m->∀H' p,ai H H'->Lies H' Ám->p.m=m->Q Ãb H')) (_:∀e,gW bI=.error e->∀H' d,ai H H'->H' d=Α (u4 d (Mi e.1 e.2))->E (.ref CN) (some d) H')
def UZ{w l:LI}(h:kC w=Α l):l.L=4:=by
 delta kC at h;split at h
 .rename_i e;delta jN at h;grind
 .cases h
def ah8{w l:LI}(h:kG w=Α (.row l)):l.L=4:=by
 delta kG at h;split at h
 .cases h
 .split at h
  .symm
  .split at h
   .symm
   .cases e:kC w with
    |none=>symm
    |some j=>
     rw[e] at h;let z:=aO h;injection z with z;subst z;exact UZ e
def drop_cons{α:Type}{l:List α}{i:Nat}{x:α}(h:l[i]? =Α x):l.drop i=x::l.drop (i+1):=by
 let(j,e):=bO.mp h;rw[List.drop_eq_getElem_cons j,e]
theorem eE.get{H:Hp}:∀{j:LA}{L:dm}{i:Nat}{q:Addr},eE H j L->j[i]? =Α q->∃l,L[i]? =Α l/\H q=Α Ő:=by
 intro j L i q m;induction m generalizing i with
 |nil=>intro h;simp at h
 |cons r t z=>
  intro h;cases i with
  |zero=>
   let e:=aO h;subst e;exact(_,Á,r)
  |succ i=>exact z h
def Am:bQ ["text","lines","rest","plate","number","line","told"] ["text"] (aY K2):=cJ
inductive RpI(C:Cs)(ap pl qr x:Addr)(Hb:Hp)(L:dm)(i:Nat)(σ:L2.St)(H':Hp):Prop
 |mk (p:eS) (v4 v5 v6:Option V) (_:σ=[some Éb,some (.ref pl),some (.ref qr),some Ŧ,v4,v5,v6]) (_:ai Hb H') (_:Rep C H' p) (_:p.a=x) (_:(∀b,b∈(eM C p).M (·.1)->Hb b=Β)) (_:mZ 0 ⟨0,[],[]⟩ L=mZ i p.m (L.drop i))
def aia{f:Addr}{fd:FD}(F:bx K "read_plate" "read_plate" K2 f fd)(T:ma K C)(tL:mg "len"=Β)(tE:mg "enumerate"=Β)(cL:Cn mg "LINE_END" (.int 10))(cN:Cn mg "NO_SUCH_LINE" ŧ)(cW:Cn mg "WRONG_PLACE" (.int 2))(dC:Ç 1 "cut" ["text","mark"] (wO K)) (dP:ć "Plate" C.P ["side","classes","glimpses"]) (dN:UW P w K mg base CN N) (dR:Ç 5 "read_line" ["line"] (UK K)) (dM:Ç 3 "may_stand" ["plate","sort"] (UP C))(dU:Ç 3 "put" ["plate","sort","told"] (UR C)) (dW:Ç 3 "has_whole_hoists" ["plate"] (qE C qD)):Ì ę 6 f fd ["text"] (UY K C CN):=by
 let(fN,U0,TN,iN,F6,GN,bN):=dN;refine F.rK Am Â;let(ap,j,rfl,hT,hl,k1,k2):=h;let n8:dJ 2 _:=hr.mono Ù;refine⟨_,aD (cy 1 Am.nd (bH (hr:=hr) dC (ae Ú (ae (cj cL) ah))))
  (aD (cy 2 Am.nd (RF PySem.F.plainAttrs_list PySem.F.slot_list_pop PySem.F.type_list_pop RH â))
  (aD (cy 3 Am.nd (qB dP hr (ae bp (ae Ļ Äw))))
  (aD (nO (SB yd) rfl (lI Ò tE Ŝ) (iM 4 5 Am.nd)
   (aD (cy 6 Am.nd (bH (hr:=hr) dR Ŭ))
   (aD (dv (oS (rk Ãr)) (aE (ko hr.hd TN.c (ķ bN .nil tj (ae (cj cN) Ϭ)))) eA)
   (aD (dv (qe (jH (bH (hr:=hr) dM (ae ú (ae Åx ah))))) (aE (ko hr.hd TN.c (ķ bN .nil tj (ae (cj cW) Ϭ)))) eA)
   (aE (sQ (bH (hr:=hr) dU (ae ú (ae Åx (ae Åx ah))))))))))
  (aD (dv (PW.pt (pw_or (cV Ϻ Ú Ļ (bW _)) (pw_or1 (cV Ãa è Ļ (bW _)))))
   (aE (ko hr.hd TN.c (ķ bN .nil tj (ae (cj cN) (ae ÿ ah))))) eA)
  (aD (dv (qe (jH (bH (hr:=hr) dW Ĺ)))
   (aE (ko hr.hd TN.c (ķ bN .nil tj (ae (cj cW) (ae ÿ ah))))) eA)
  (aE (a0 ú))))))),?_⟩
 apply(_,Á,ap,10,j,Á,hT,gS hl Ù,λH1 pl qs hN hp nd np hf=>?_);let(gQ,qr,rfl,vd,wV):=eE.last hp (JM.l8 10 j);let s1:=hN.1;apply(_,Á,.inl ⟨Á,_,aa.of hN.2.2⟩,pl,_,V.ref qr,Á,Á,hN.2.2,?_,?_)
 .simp
 let eL:(((gQ++[qr]).M V.ref).dropLast)=gQ.M V.ref:=by rw[bZ];simp
 rw[eL];let Ml:=λz=>np (Bh _ z);let Mm:qr≠pl:=λz=>np Å;generalize hL:(JM.aJ 10 j).dropLast=L at vd;generalize hRest:(JM.aJ 10 j).getLastD []=U at wV;let sb:ai H ŕ:=fu s1 hN.2.1;let An:eE ŕ gQ L:=eE.upd vd Ml;let rb:(ŕ) qr=Α (.lst (iv U)):=by rw[ao Mm];exact wV
 let lb:(ŕ) pl=Α Ă:=aq;generalize ŕ=Hb at sb An rb lb;let asW:L.L<=66000:=by
  rw[<-hL,Zx];let:=FP 10 j;omega
 let U1:=An.len;let aib:∀w∈L,w.L<=100000:=λw O=>by
  let:=yq 10 j w (by rw[<-hL] at O;exact Bp _ O);lia
 let W:gW j=match mZ 0 ⟨0,[],[]⟩ L with
   |.error e=>.error e
   |.ok m=>if j=[]\/U≠[] then .error (1,L.L) else if qD m=true then .ok m else .error (2,L.L):=by
  ext gW;rw[hL,hRest]
 let CU:∀(kk ll:Nat)(Hx:Hp),gW j=.error (kk,ll)->ai H Hx->([V.int (kk:Nat),V.int (ll:Nat)]:ay).L<=sizeLine/\∀x,Hx x=Β->
   Mj CN (V.ref x::([V.int (kk:Nat),V.int (ll:Nat)]++[])) (upd Hx x (exc CN none .none x)) (λv H2=>v=.aK/\∃a od,V.ref x=V.ref a/\H2 a=Α (exc CN od .none a)/\(∀d,od=Α d->d≠a)/\E (.ref CN) od H2) E0:=λkk ll Hx e J=>
  ⟨(by show 2<=sizeLine;decide),λx Z=>⟨x,kk,ll,rfl,aq,λH5 d h1 aU h2 kp=>⟨rfl,x,some d,rfl,h1,λd' e'=>(by cases e';exact aU),k2 _ e H5 d (λb o eb=>kp b o (by rw[ao (eO (J _ _ eb) Z)];exact J _ _ eb) (eO (J _ _ eb) Z)) h2⟩⟩⟩
 apply(du _,λl1 eQ=>⟨du _,λl2 ju=>?_⟩);intro x dx Z jf U2;refine⟨x,dx,_,Á,Á,aq,λH4 h4 k4=>Ŷ⟩;let t1:ai Hb (upd Hb l1 ä):=aN eQ;let t2:ai Hb (upd (upd Hb l1 ä) l2 ä):=fu t1 (t1.free ju);let t4:=ai.made Z jf k4;let t5:=t2.R t4;let U3:l1≠l2:=λz=>by rw[<-z,aq] at ju;cases ju
 let nx2:l2≠x:=λz=>by rw[<-z,aq] at Z;cases Z
 let nx1:l1≠x:=λz=>by rw[<-z,ao U3,aq] at Z;cases Z
 let R0:Rep C H4 ⟨x,dx,l1,l2,0,[],[]⟩:=by
  apply(λy hy=>?_,?_)
  .let hy:=hy;rcases aV.mp hy with rfl|hy
   .exact h4
   .rcases aV.mp hy with rfl|hy
    .exact t4 _ _ (by rw[ao U3];exact aq)
    .obtain rfl:=lg.mp hy;exact t4 _ _ aq
  .show([x,l1,l2]:LA).Nodup;grind
 let F0:∀b,b∈(eM C ⟨x,dx,l1,l2,0,[],[]⟩).M (·.1)->Hb b=Β:=λb hb=>by
  let hb:b=x\/b=l1\/b=l2:=by simpa [eM] using hb
  rcases hb with rfl|rfl|rfl
  .exact t2.free Z
  .omega
  .exact t1.free ju
 refine⟨_,Á,pl,_,Á,aa.of (t5 _ _ lb),aew (K:=K) (a:=pl) (xs:=gQ.M V.ref)
  (RpI C ap pl qr x Hb L)
  ⟨⟨x,dx,l1,l2,0,[],[]⟩,none,none,none,rfl,t5,R0,rfl,F0,rfl⟩ (λi σ H' _ h=>(by let(_,_,_,_,_,J):=h;exact aa.of (J _ _ lb))) ?_ ?_⟩
 .rintro i y TT σ H' hi ⟨p,v4,v5,v6,rfl,J,R,Ak,j7,tH⟩ wy;obtain⟨q,hq,rfl⟩:∃q,gQ[i]? =Α q/\y=V.ref q:=by
   grind
  let(wd,O,hqw):=eE.get An hq;let sT:=fu (o:=.tup [.int (i:Nat),.ref q]) J (J.free wy);let U4:ai H' (upd H' TT (.tup [.int (i:Nat),.ref q])):=aN wy;rw[drop_cons O] at tH;apply(TT,_,Á,bz.of aq,Á,_,_,Á,_,_,Á,Á,_,Á,q,wd,Á,aa.of (sT _ _ hqw),aib wd (bY O),λH3 v s3 F7=>?_);let U5:=sT.R s3;let s3H:=sb.R U5;cases Ao:kG wd with
  |none=>
   rw[Ao] at F7;obtain rfl:v=.aK:=F7;let Y:gW j=.error (1,i):=by
    rw[W,tH];ext mZ;symm
   exact(_,Á,_,Á,ite_yes Á ⟨_,Á,CU 1 i H3 Y s3H⟩)
  |some t=>
   rw[Ao] at F7;let(q2,y2,rfl,yi,Mn,ta):=F7;let L3:=R.lies.E (U4.R s3);refine⟨_,Á,_,Á,ite_no Ä ⟨_,Á,_,Á,q2,_,0,_,Á,Á,bz.of Mn,Á,p,t.sort,Å,L3,λH5 s5=>Ĝ⟩⟩;let U6:=U5.R s5;let s5H:=sb.R U6;apply bc (λhm=>?_) (λhm=>?_)
   .simp at hm;let Y:gW j=.error (2,i):=by
     rw[W,tH];ext mZ;symm
    exact(_,Á,CU 2 i H5 Y s5H)
   .simp at hm;let R5:Rep C H5 p:=⟨L3.E s5,R.nd⟩;refine⟨_,Á,_,Á,q2,_,0,_,Á,Á,bz.of (s5 _ _ Mn),Á,_,Á,q2,_,1,_,Á,Á,bz.of (s5 _ _ Mn),Á,p,t,y2,upd H' TT (.tup [.int (i:Nat),.ref q]),(by rw[Ak];rfl),R5,s3.R s5,R.lies.E U4,ta.E s5,
     λl e=>ah8 (by rw[Ao,e]),hm,λH6 p' e1 e2 R6 kf kn=>?_⟩
    apply(p',_,_,_,Á,λb o eb=>kf b o (U6 _ _ eb) (λz=>by grind),R6,e1.R Ak,λb hb=>?_,?_)
    .rcases kn b hb with z|z
     .grind
     .exact sT.free z
    .rw[tH,e2];rw[show mZ i p.m (wd::L.drop (i+1))=(match kG wd with
      |none=>.error (1,i)
      |some t=>if dw p.m t.sort=true then mZ (i+1) (rS p.m t) (L.drop (i+1)) else .error (2,i)) from rfl,Ao]
     symm
 .rintro σ H' ⟨p,v4,v5,v6,rfl,J,R,Ak,j7,tH⟩;let sH:=sb.R J;rw[az,U1,List.drop_length] at tH;let tH:mZ 0 ⟨0,[],[]⟩ L=.ok p.m:=tH;rw[tH] at W;dsimp only at W;let Mo:(((gQ.M V.ref).L:Nat):Int)=((L.L:Nat):Int):=by rw[az,U1]
  apply(_,Á,du _,λe1 n1=>?_);let F8:=fu (o:=.lst []) sH (sH.free n1);let Mp:=fu (o:=.lst []) J (J.free n1);refine⟨ap,e1,_,Á,Á,F8.seq hT,aa.of aq,_,Á,bc Ï Ï⟩
  .let hc:j=[]:=by
    symm
   let Y:gW j=.error (1,L.L):=by rw[W,af (.inl hc)]
   apply(_,Á,pl,_,Á,.inl (aa.of (Mp _ _ lb)),?_);rw[Mo];exact CU 1 L.L _ Y F8
  .let hc:¬j=[]:=λz=>hc Å;apply(_,Á,du _,λe2 n2=>?_);let Mq:=fu (o:=.lst []) F8 (F8.free n2);let Mr:=fu (o:=.lst []) Mp (Mp.free n2);refine⟨qr,e2,_,Á,Á,aa.of (Mr _ _ rb),aa.of aq,_,Á,bc Ġ Ġ⟩
   .let hd:U≠[]:=λz=>by rw[z] at hd;exact absurd hd Ù
    let Y:gW j=.error (1,L.L):=by rw[W,af (.inr hd)]
    apply(_,Á,pl,_,Á,.inl (aa.of (Mr _ _ lb)),?_);rw[Mo];exact CU 1 L.L _ Y Mq
   .let hd:U=[]:=by
     symm
    let BR:¬(j=[]\/U≠[]):=λz=>z.elim hc (λz=>z hd);rw[ag BR] at W;let Lx:Lies _ Ám:=(R.lies.E (aN (o:=.lst []) n1)).E (aN (o:=.lst []) n2);refine⟨_,Á,p,Å,Lx,λH3 s3=>Ĝ⟩;apply bc (λO=>?_) (λO=>?_)
    .simp at O;let Y:gW j=.error (2,L.L):=by rw[W,O];rfl
     apply(_,Á,pl,_,Á,.inl (aa.of (s3 _ _ (Mr _ _ lb))),?_);rw[Mo];exact CU 2 L.L _ Y (Mq.R s3)
    .simp at O;rw[af O] at W;refine Ĝ;let q:=k1 p.m W H3 p (Mq.R s3) (Lx.E s3) rfl;symm
end
def Ap:Str:="ABCDEFGHIJKLMNOPQRSTUVWXYZ0123456789"
def iQ(part:LI):Bool:=decide (1<=part.L)&&(decide (part.L<=8)&&part.all λb=>(codes Ap).Y b)
inductive Ms(K:FR)(vs:ay)(H:Hp)(Q:VK)(E':XK):Prop
 |mk (ap:Addr) (part:LI) (_:vs=[.ref ap]) (_:ã ap Ãe) (_:part.L<=100000) (_:∀H',ai H H'->Q (.bl (iQ part)) H')
section
variable{P:Pg}{w:Wd}{K:FR}{mg:MG}{base:Heap}
def aif:bQ ["part"] ["part"] (aY KO):=cJ
def aih(F:bx K "is_name" "is_name" KO f fd)(tL:mg "len"=Β)(J:Cn mg "LONGEST_NAME" (.int 8))(O:Cn mg "NAME_SIGNS" (.str Ap))(U:Ç 2 "places_in" ["signs","part"] (FT K)):Ì aF 3 f fd ["part"] (Ms K):=by
 refine F.ok aif Â;let(j,part,rfl,m,hl,k):=h;refine⟨_,aE (a0 (uP (Rf xT xT bp Ċ (cj J))
  (sO (QW (IZ (bH (hr:=hr) U (ae (cj O) õ))))))),?_⟩
 let W:decide ((1:Int)<=(((iv part).L:Nat):Int))=decide (1<=part.L):=by
  grind
 let Y:decide ((((iv part).L:Nat):Int)<=8)=decide (part.L<=8):=by
  grind
 let q:=k;delta iQ at q;apply(_,Á,j,_,Á,.inl m,_,_,Á,Á,_,Á,?_);rw[W];refine bc Ï Ï
 .apply(_,_,Á,Á,_,Á,?_);rw[Y];refine bc Ġ Ġ
  .rw[hc,hd,lW,lW] at q;apply(_,Á,Ap,j,part,Á,by decide,m,hl,λz H' s1=>?_,λl z H' p Z=>?_)
   .let q:=q _ s1;delta jN at z;lia
   .let q:=q _ Z.1;delta jN at z;lia
  .let hd:decide (part.L<=8)=false:=by simpa using hd
   rw[hd,lU,zj] at q;exact q _ ϊ
 .let hc:decide (1<=part.L)=false:=by simpa using hc
  rw[hc,lU] at q;exact(_,Á,q _ ϊ)
def fj(t:LI)(line:LI):Option LI:=match JM.aJ 32 line with
 |[a,b]=>if a=t/\iQ b=true then some b else none
 |_=>none
inductive Mt(K:FR)(vs:ay)(H:Hp)(Q:VK)(E':XK):Prop
 |mk (x:Str) (ap:Addr) (line:LI) (_:vs=[.str x,.ref ap]) (_:x.cps.u<=100000) (_:ã ap Æc) (_:line.L<=100000) (_:∀H' v,ai H H'->LstAt H H' (fj Ũ line) v->Q v H')
theorem aii(h:l.L=2):∃a b,l=[a,b]:=by
 match l,h with
 |[a,b],_=>exact(a,b,Á)
def U7:bQ ["title","line","words"] ["title","line"] (aY KP):=cJ
def aij(F:bx K "name_behind" "name_behind" KP f fd)(tL:mg "len"=Β)(cB:Cn mg "BLANK" Æf)(dC:Ç 1 "cut" ["text","mark"] (wO K)) (dS:Ç 1 "spelled" ["written"] CD) (dN:Ç 3 "is_name" ["part"] (Ms K)):
  ba P w K mg base aF 4 f fd ["title","line"] (Mt K):=by
 refine F.ok U7 Â;let(x,ap,line,rfl,hx,hP,hl,k):=h;let vb:dJ 1 _:=hr.mono Ù;refine⟨_,aD (cy 2 U7.nd (bH (hr:=vb) dC (ae â ϸ)))
  (aD (dv (PW.pt (pw_or (cV vZ þ bp (bW _))
    (pw_or (cV (S3 hr.units) Àx (bH (hr:=vb) dS õ) (bW _))
    (pw_or1 (qe (jH (bH (hr:=hr) dN (ae Àx ah)))))))) ϋ eA)
  (aE (a0 Àx))),?_⟩
 apply(_,Á,ap,32,line,Á,hP,hl,λH1 p W U j nd np hf=>?_);let cE:((W.M V.ref).L:Int)=((JM.aJ 32 line).L:Nat):=by rw[az,j.len]
 let s1:=U.1;refine⟨_,Á,p,_,Á,.inl (aa.of U.2.2),Á,_,Á,bc Ï Ï⟩
 .apply k H1 .aK s1 ?_;let:fj Ũ line=Β:=by
   ext fj;grind
  rw[this];rfl
 .let h2:(JM.aJ 32 line).L=2:=by
   grind
  let(a,b,Z):=aii h2;rw[Z] at j;let en:fj Ũ line=if a=codes x/\iQ b=true then some b else none:=by ext fj;rw[Z]
  let L7:∀w∈[a,b],w.L<=100000:=λw hw=>gS (yq 32 line w Å) hl;obtain⟨qa,O,rfl⟩:∃x y,W=[x,y]:=by
   let:=j.len
   match W,this with
   |[x,y],_=>exact(x,y,Á)
  cases j with
  |cons ha j=>
   cases j with
   |cons hb j=>
    apply(_,Á,p,_,0,V.ref qa,Á,Á,aa.of U.2.2,Á,_,Á,x,Á,hx,λH2 p2 m=>?_);let s2:=s1.R m.1;refine⟨qa,p2,a,codes x,Á,Á,aa.of (m.1 _ _ ha),aa.of m.2.2,_,Á,bc Ġ Ġ⟩
    .apply k H2 .aK s2 ?_;simp at hd;rw[en,ag (λz=>hd z.1)];rfl
    .simp at hd;refine⟨_,Á,p,_,1,V.ref O,Á,Á,aa.of (m.1 _ _ U.2.2),Á,O,b,Á,aa.of (m.1 _ _ hb),L7 b Ä,λY s3=>Ĝ⟩;apply bc (λJ=>?_) (λJ=>?_)
     .let J:¬iQ b=true:=by simpa using J
      apply k Y .aK Ĳ ?_;rw[en,ag (λz=>J z.2)];rfl
     .simp at J;apply(_,Á,p,_,1,V.ref O,Á,Á,aa.of (s3 _ _ (m.1 _ _ U.2.2)),Á,?_);apply k Y (.ref O) Ĳ ?_;rw[en,af ⟨hd,J⟩];exact(O,Á,hf O Ä,s3 _ _ (m.1 _ _ hb))
def jP(j:LI):Option dm:=if (JM.aJ 10 j).getLastD []=[] then some (JM.aJ 10 j).dropLast else none
def aik(H H':Hp):Option dm->V->Prop
 |none,v=>v=.aK
 |some L,v=>∃p qs,v=.ref p/\H p=Β/\H' p=Α Ē/\eE H' qs L/\(∀q∈qs,H q=Β)
inductive Mu(K:FR)(vs:ay)(H:Hp)(Q:VK)(E':XK):Prop
 |mk (ap:Addr) (bI:LI) (_:vs=[.ref ap]) (_:ã ap (iv bI)) (_:bI.L<=100000) (_:∀H' v,ai H H'->aik H H' (jP bI) v->Q v H')
def Mv:bQ ["text","lines","rest"] ["text"] (aY KJ):=cJ
def ail(F:bx K "whole_lines" "whole_lines" KJ f fd)(cL:Cn mg "LINE_END" (.int 10))(dC:Ç 1 "cut" ["text","mark"] (wO K)):
  ba P w K mg base aF 2 f fd ["text"] (Mu K):=by
 refine F.ok Mv Â;let(ap,j,rfl,hP,hl,k):=h;refine⟨_,aD (cy 1 Mv.nd (bH (hr:=hr) dC (ae Ú (ae (cj cL) ah))))
  (aD (cy 2 Mv.nd (RF PySem.F.plainAttrs_list PySem.F.slot_list_pop PySem.F.type_list_pop RH â))
  (aE (a0 (sP (cV Ϻ è Ļ (bW _)) â rj)))),?_⟩
 apply(_,Á,ap,10,j,Á,hP,hl,λH1 pl qs m hp nd np hf=>?_);let(gQ,J,rfl,vd,wV):=eE.last hp (JM.l8 10 j);let s1:=m.1;apply(_,Á,.inl ⟨Á,_,aa.of m.2.2⟩,pl,_,V.ref J,Á,Á,m.2.2,?_,?_)
 .simp
 let eL:(((gQ++[J]).M V.ref).dropLast)=gQ.M V.ref:=by rw[bZ];simp
 rw[eL];let Ml:=λz=>np (Bh _ z);let Mm:J≠pl:=λz=>np Å;let U:ai H ŕ:=fu s1 m.2.1;let W:=eE.upd (o:=.lst (gQ.M V.ref)) vd Ml;let rb:(ŕ) J=Α (.lst (iv ((JM.aJ 10 j).getLastD []))):=by rw[ao Mm];exact wV
 let lb:(ŕ) pl=Α Ă:=aq;generalize ŕ=Y at U W rb lb;apply(_,Á,du _,λZ n1=>?_);let s2:=fu (o:=.lst []) U (U.free n1);let O:ai Y (upd Y Z ä):=aN n1;refine⟨J,Z,_,Á,Á,aa.of (O _ _ rb),aa.of aq,_,Á,bc Ï Ï⟩
 .let hc:(JM.aJ 10 j).getLastD []=[]:=by simpa using hc
  apply(_,Á,k _ _ s2 ?_);ext jP;rw[af hc];exact(pl,gQ,Á,m.2.1,O _ _ lb,W.E O,λq hq=>hf q (Bh _ hq))
 .let hc:¬(JM.aJ 10 j).getLastD []=[]:=by simpa using hc
  apply k _ _ s2 ?_;ext jP;rw[ag hc];rfl
end
structure hJ where
 role:Nat
 name:LI
 kI:Int
 copies:Int
 shape:Nat
 look:LI
abbrev aG:=List hJ
structure aB where
 a:Addr
 dx:Addr
 nm:Addr
 lk:Addr
 m:hJ
def wW(k:aB):List (Str×V):=[("role",.int (k.m.role:Nat)),("name",.ref k.nm),("which",.int k.m.kI),("copies",.int k.m.copies),("shape",.int (k.m.shape:Nat)),("look",.ref k.lk)]
def kJ(C:Addr)(k:aB):jw:=[(k.a,.ins C k.dx (wW k)),(k.nm,.lst (iv k.m.name)),(k.lk,.lst (iv k.m.look))]
def wX(k:aB):(wW k).Q ("role":Str)=Α (.int (k.m.role:Nat)):=ij
def U8(k:aB):(wW k).Q ("name":Str)=Α (.ref k.nm):=(fw È).R ij
def Mx(k:aB):(wW k).Q ("which":Str)=Α (.int k.m.kI):=(fw È).R ((fw È).R ij)
def My(k:aB):(wW k).Q ("copies":Str)=Α (.int k.m.copies):=(fw È).R ((fw È).R ((fw È).R ij))
def U9(k:aB):(wW k).Q ("shape":Str)=Α (.int (k.m.shape:Nat)):=(fw È).R ((fw È).R ((fw È).R ((fw È).R ij)))
def Va(k:aB):(wW k).Q ("look":Str)=Α (.ref k.lk):=(fw È).R ((fw È).R ((fw È).R ((fw È).R ((fw È).R ij))))
structure ve where
 a:Addr
 dx:Addr
 nm:Addr
 kl:Addr
 name:LI
 kinds:List aB
def F9(l:ve):List (Str×V):=[("name",.ref l.nm),("kinds",.ref l.kl)]
def Aq(C:Addr)(ks:List aB):jw:=ks.flatMap (kJ C)
def aim(l:ve):(F9 l).Q ("name":Str)=Α (.ref l.nm):=ij
def Ga(l:ve):(F9 l).Q ("kinds":Str)=Α (.ref l.kl):=(fw È).R ij
structure tI(K:FR)(C:Addr):Prop where
 c:lD K C
 wY:ϲ "role"
 nName:ϲ "name"
 Mz:ϲ "which"
 MA:ϲ "copies"
 Ah:ϲ "shape"
 Vb:ϲ "look"
structure LkT(K:FR)(C:Addr):Prop where
 c:lD K C
 nName:ϲ "name"
 asZ:ϲ "kinds"
structure m3(K:FR)(mg:MG)(x:Str)(C N:Addr):Prop where
 c:XC K C N
 n9:PySem.W.nsIn K N "__init__"=Α none
 mC:mg x=Α ą
 keep:PySem.W.keepIn K ą=true
section
variable{P:Pg}{w:Wd}{K:FR}{mg:MG}{base:Heap}{C CN N:Addr}
abbrev No(E:XK)(C:Addr)(H:Hp):Prop:=∀H',ai H H'->E ą none H'
def No.go(h:No E C H)(s:ai H H1):No E C H1:=λj m=>h j (s.R m)
def gX(h:No E C H):∀x,H x=Β->∃(a:Addr)(od:OA),V.ref x=V.ref a/\upd H x Ř a=Α (exc C od .none a)/\(∀d,od=Α d->d≠a)/\E ą od (upd H x Ř):=
 λx j=>⟨x,none,rfl,aq,λd z=>(by cases z),h _ (aN j)⟩
inductive MB(K:FR)(CN:Addr)(vs:ay)(H:Hp)(Q:VK)(E:XK):Prop
 |mk (ap:Addr) (part:LI) (_:vs=[.ref ap]) (_:ã ap Ãe) (_:part.L<=100000) (_:(iQ part=true->∀H',ai H H'->Q Éb H')) (_:(iQ part=false->No E CN H))
def aio:bQ ["word"] ["word"] (aY KR):=cJ
def aip(F:bx K "read_name" "read_name" KR f fd)(X:ϓ "NoLocker" CN N)(z:Ç 3 "is_name" ["part"] (Ms K)):
  ba P w K mg base ę 4 f fd ["word"] (MB K CN):=by
 refine F.rK aio Â;let(m,part,rfl,J,O,k1,k2):=h;apply(_,aD (dv (qe (jH (bH z õ))) ŏ eA) (aE (a0 Ú)),?_);refine⟨_,Á,m,part,Á,J,O,λH1 j=>⟨_,Á,bc Ï Ï⟩⟩
 .exact gX ((k2 Å).go j)
 .exact(_,Á,k1 Å H1 j)
def iH(w:LI)(m:Int):Option Int:=match w with
 |[d]=>if d<49\/d>48+m then none else some (d-48)
 |_=>none
inductive MC(K:FR)(CN:Addr)(vs:ay)(H:Hp)(Q:VK)(E:XK):Prop
 |mk (ap:Addr) (part:LI) (most:Int) (_:vs=[.ref ap,.int most]) (_:ã ap Ãe) (_:part.L<=100000) (_:(∀d,iH part most=Α d->∀H',ai H H'->Q (.int d) H')) (_:(iH part most=Β->No E CN H))
def aiq:bQ ["word","most"] ["word","most"] (aY KS):=cJ
def air(F:bx K "read_digit" "read_digit" KS f fd)(tL:mg "len"=Β)(X:ϓ "NoLocker" CN N)(J:Cn mg "DIGIT_ZERO" (.int 48)):
  ba P w K mg base ę 1 f fd ["word","most"] (MC K CN):=by
 refine F.rK aiq Â;let(j,part,m,rfl,z,U,k1,k2):=h;refine⟨_,aD (dv (PW.pt (pw_or (cV vZ Ċ bp (bW _))
   (pw_or (cV xS Çb (eP rl (cj J) bp) (bW _)) (pw_or1 (cV wa Çb (eP rl (cj J) â) (bW _))))))
   (Û) eA) (aE (a0 (eP rn Çb (cj J)))),?_⟩
 refine⟨_,Á,j,_,Á,.inl z,Á,_,Á,bc Ï Ï⟩
 .let e:iH part m=Β:=by
   ext iH;grind
  exact gX (k2 e)
 .obtain⟨d,rfl⟩:∃d,part=[d]:=by
   match part with
   |[d]=>exact(d,Á)
   |[]=>exact absurd (by simp[iv]) hc
   |a::b::r=>
    exfalso;apply hc;simp only[iv,az,df,Bool.not_eq_true',ID];intro q;injection q with q;lia
  let O:iH [d] m=if d<49\/d>48+m then none else some (d-48):=rfl;refine⟨_,Á,j,_,0,V.int d,Á,Á,z,Á,_,_,Á,Á,_,_,Á,Á,_,Á,bc Ū Ū⟩
  .simp at h1;exact gX (k2 Å)
  .simp at h1;refine⟨_,Á,j,_,0,V.int d,Á,Á,z,Á,_,Á,_,_,Á,Á,_,_,Á,Á,_,Á,bc Ár Ár⟩
   .simp at h2;exact gX (k2 Å)
   .simp at h2;exact(_,Á,j,_,0,V.int d,Á,Á,z,Á,_,_,Á,Á,(k1 _ Å H ϊ))
end
def wZ{C:Addr}{ns:LS}{as:ay}{H1:Hp}{Q:VK}{E:XK}(U:as.L=ns.L)(h:∀x dx H',H1 x=Β->H1 dx=Β->dx≠x->H' x=Α (.ins C dx (ns.zip as))->ai H1 H'->Q Ŧ H'):
  ∀x dx,H1 x=Β->H1 dx=Β->dx≠x->FX C ns (.ref x::(as++[])) (upd (upd H1 dx Åg) x Âl) (λv z=>v=.aK/\Q Ŧ z) E:=λx dx m hd F=>
 ⟨x,dx,as,by rw[jG],U,aq,λH' J O=>⟨rfl,h x dx H' m hd F J λb o j=>O b o (by rw[ao (eO j m),ao (eO j hd)];exact j) (eO j m)⟩⟩
theorem eE.at{H:Hp}{qs:LA}{L:dm}(h:eE H qs L){j:Nat}(m:j<L.L):∃q,q∈qs/\Äk[j]? =Α Èy/\H q=Α (.lst (iv (L.D j []))):=by
 induction h generalizing j with
 |nil=>exact absurd m Ä
 |cons r t z=>
  cases j with
  |zero=>exact(_,by simp,rfl,r)
  |succ j=>
   let(q,a,b,c):=z (j:=j) (À m);exact(q,aQ _ a,b,c)
def MD{α:Type}{xs:List α}{k:Nat}{v:α}(hk:0<k)(h:xs[xs.L-k]? =Α v)(j:k<=xs.L):qg xs (-(k:Int))=Α v:=by
 let e:sU xs.L (-(k:Int))=Α (xs.L-k):=by
  ext sU;grind
 ext qg;symm
def vg:LS:=["sign","same","answer"]
def jQ:LS:=["square","tails","long"]
def md(r:Nat)(w:LI):Option LI:=if r=0 then (if iQ w=true then some w else none) else some []
def rT(r:Nat)(w:LI):Option Int:=if r=1 then iH w 4 else some 0
def rV(r:Nat):Option LI->Option Int->Option Int->Option Nat->Option LI->Option hJ
 |some n,some h,some c,some s,some l=>some ⟨r,n,h,c,s,l⟩
 |_,_,_,_,_=>none
def pd(ws:dm):Option hJ:=match bC ϙ Àl with
 |none=>none
 |some r=>if ws.L=(if r=2 then 4 else 5) then rV r (md r Ŕ) (rT r Ŕ) (iH (ws.D (ws.L-3) []) 8) (bC ă (ws.D (ws.L-2) [])) (iz (ws.D (ws.L-1) [])) else none
def iR(line:LI):Option hJ:=pd (JM.aJ 32 line)
def Gb{b c d e}:rV r none b c d e=Β:=by cases b <;> cases c <;> cases d <;> cases e <;> rfl
def Gc{a c d e}:rV r a none c d e=Β:=by cases a <;> cases c <;> cases d <;> cases e <;> rfl
def ME{a b d e}:rV r a b none d e=Β:=by cases a <;> cases b <;> cases d <;> cases e <;> rfl
def Gd{a b c e}:rV r a b c none e=Β:=by cases a <;> cases b <;> cases c <;> cases e <;> rfl
def Ge{a b c d}:rV r a b c d none=Β:=by cases a <;> cases b <;> cases c <;> cases d <;> rfl
def Ar{j:dm}{part:LI}{r:Nat}(h:bC j part=Α r):r<j.L:=by
 delta bC at h;let(m,_):=Iy.mp h;exact m
inductive MF(K:FR)(CK CN:Addr)(vs:ay)(H:Hp)(Q:VK)(E:XK):Prop
 |mk (ap:Addr) (line:LI) (_:vs=[.ref ap]) (_:ã ap Æc) (_:line.L<=100000) (_:(∀m,iR line=Α m->∀H' k,ai H H'->k.m=m->aX H' (kJ CK k)->(∀x∈kJ CK k,H x.1=Β)->Q (.ref k.a) H')) (_:(iR line=Β->No E CN H))
section
variable{P:Pg}{w:Wd}{K:FR}{mg:MG}{base:Heap}{CK CN N:Addr}
def w6:bQ ["line","words","role","name","which","copies","shape","look"] ["line"] (aY KU):=cJ
def ais(h2:σ[2]? =Α (some (.int (r:Nat))))(J:σ[1]? =Α (some ĝ))(U:ã p xs)(m:xs[1]? =Α (.ref q1))(F:H q1=Α (.lst (iv w1)))(W:w1.L<=100000)(no:md r w1=Β->No E CN H) (yes:∀n,md r w1=Α n->∀z a,ai H z->z a=Α (.lst (iv n))->(a=q1\/H a=Β)->Q ā z):
  xO (nP (bV oW š Äh)) (ic (MB K CN) [] E (bo (bV ž Ϟ Åj) dQ)) (zH dQ) σ H Q:=by
 refine⟨_,h2,Á,_,Á,bc Ï Ï⟩
 .let e:r=0:=by
   symm
  delta md at no yes;rw[af e] at no;apply(_,J,p,xs,1,.ref q1,Á,Á,U,gc (j:=1) m,q1,w1,Á,aa.of F,W,λO H' s'=>?_,λO=>no Å);apply yes w1 ?_ H' q1 s' (s' _ _ F) ě;symm
 .let e:¬r=0:=by
   symm
  exact(du _,λx m=>(yes [] (by ext md;rw[ag e]) _ x (aN m) aq (.inr m)))
def ait{K:FR}{CN:Addr}{E:XK}{σ:L2.St}{H:Hp}{Q:VK}{p:Addr}{xs:ay}{r:Nat}{m:Addr}{w1:LI}(h2:σ[2]? =Α (some (.int (r:Nat))))(J:σ[1]? =Α (some ĝ))(U:ã p xs)(Z:xs[1]? =Α (.ref m))(W:H m=Α (.lst (iv w1)))(Y:w1.L<=100000)(no:rT r w1=Β->No E CN H) (yes:∀n,rT r w1=Α n->∀F,ai H F->Q (.int n) F):
  xO (nP (bV oW š Åj)) (ic (MC K CN) [] E (bo (bV ž Ϟ Åj) (bo (tC (.int 4)) dQ))) Äh σ H Q:=by
 refine⟨_,h2,Á,_,Á,bc Ï Ï⟩
 .let e:r=1:=by
   let:V.int (r:Nat)=V.int 1:=À hc
   injection this with this;lia
  delta rT at no yes;rw[af e] at no yes;exact(_,J,p,xs,1,.ref m,Á,Á,U,gc (j:=1) Z,m,w1,4,Á,aa.of W,Y,λd hd H' s'=>yes d hd H' s',λO=>no O)
 .let e:¬r=1:=by
   intro z;apply hc;rw[z];simp
  exact yes 0 (by ext rT;rw[ag e]) H ϊ
def aiu{f:Addr}{fd:FD}(F:bx K "read_kind" "read_kind" KU f fd)(tL:mg "len"=Β)(X:ϓ "NoLocker" CN N)(cB:Cn mg "BLANK" Æf)(cR:Tn K mg "ROLES" (vg.M V.str))(cW:Tn K mg "WORDS_OF_ROLES" [.int 5,.int 5,.int 4])(cS:Cn mg "SIGN" ő) (cSa:Cn mg "SAME" ŧ) (cMS:Cn mg "MOST_SAME" (.int 4)) (cMC:Cn mg "MOST_COPIES" (.int 8)) (cSh:Tn K mg "SHAPES" (jQ.M V.str))(dC:Ç 1 "cut" ["text","mark"] (wO K)) (dA:Ç 2 "place_among" ["words","part"] (FS K)) (dN:č ę 4 "read_name" ["word"] (MB K CN)) (dD:č ę 1 "read_digit" ["word","most"] (MC K CN))(dR:Ç 3 "read_colours" ["part"] (LW K)) (dK:ć "Kind" CK ["role","name","which","copies","shape","look"]):Ì ę 5 f fd ["line"] (MF K CK CN):=by
 let(aR,mR,hR):=cR;let(aW,mW,hW):=cW;let(Vc,mSh,hSh):=cSh;let(fN,U0,GN,mN,kN,bN):=dN;let(fD,fdD,GD,mD,kD,bD):=dD;refine F.rK w6 Â;let(ap,line,rfl,hP,hl,k1,k2):=h;let vb:dJ 1 _:=hr.mono Ù;refine⟨_,aD (cy 1 w6.nd (bH (hr:=hr) dC (ae Ú ϸ)))
  (aD (cy 2 w6.nd (bH (hr:=hr) dA (ae (vV (v:=.ref aR) Ò mR rfl) ŝ)))
  (aD (dv (PW.pt (pw_or Æs (pw_or1 (cV vZ ÿ (cQ zK (vV (v:=.ref aW) Ò mW rfl) è Ø) (bW _)))))
   (Û) eA)
  (aD (cy 3 w6.nd (sP (cV ir è Ça (bW _)) (mG GN hr rfl mN kN bN .nil rJ ŝ) Ļ))
  (aD (cy 4 w6.nd (sP (cV ir è (cj cSa) (bW _)) (mG GD vb rfl mD kD bD .nil rJ (ae (cQ c8 â bp Ø) (ae (cj cMS) ah))) bp))
  (aD (cy 5 w6.nd (mG GD vb rfl mD kD bD .nil rJ (ae Âe (ae (cj cMC) ah))))
  (aD (cy 6 w6.nd (bH (hr:=hr) dA (ae (vV (v:=.ref Vc) Ò mSh rfl) (ae Âe ah))))
  (aD (cy 7 w6.nd (bH (hr:=hr) dR (ae Âe ah)))
  (aD (dv (PW.pt (pw_or (oS (rk Ãr)) (pw_or1 (oS (rk Åt))))) Û eA)
  (aE (a0 (qB dK hr (ae è (ae ú (ae ĸ (ae Äl (ae Ãr (ae Åt ah))))))))))))))))),?_⟩
 apply(_,Á,ap,32,line,Á,hP,hl,λH1 p qs Z hp nd np hf=>?_);let s1:=Z.1;let hws:=λw hw=>gS (yq 32 line w hw) hl;let ek:iR line=pd (JM.aJ 32 line):=rfl;let aU:=JM.l8 32 line;generalize JM.aJ 32 line=ws at hp hws ek aU;let cE:(qs.M V.ref).L=ws.L:=by rw[az,hp.len]
 let W:∀j,(ws.D j []).L<=100000:=λj=>by
  grind
 let(q0,CH,tJ,hh0):=hp.at (j:=0) (by grind);apply(_,Á,p,_,0,_,Á,Á,aa.of Z.2.2,gc (j:=0) tJ,aR,q0,vg,ws.D 0 [],Á,hR H1,by decide,aa.of hh0,λH2 s2=>?_);let m:=s1.R s2;refine⟨_,Á,_,Á,bc Ï Ï⟩
 .let hc:oI (bC ϙ Àl)=V.aK:=by simpa using hc
  let e:iR line=Β:=by
   rw[ek];ext pd;cases z:bC ϙ Àl with
   |none=>rfl
   |some i=>rw[z] at hc;cases hc
  exact gX ((k2 e).go m)
 .let hc:¬oI (bC ϙ Àl)=V.aK:=by simpa using hc
  obtain⟨r,er⟩:∃r,bC ϙ Àl=Α r:=by
   cases z:bC ϙ Àl with
   |none=>rw[z] at hc;exact absurd Á hc
   |some i=>simp
  let aiD:=Ar er;rw[er];let Y:iR line=if ws.L=(if r=2 then 4 else 5) then rV r (md r Ŕ) (rT r Ŕ) (iH (ws.D (ws.L-3) []) 8) (bC ă (ws.D (ws.L-2) [])) (iz (ws.D (ws.L-1) [])) else none:=by
   rw[ek];ext pd;symm
  let eat:qg [V.int 5,V.int 5,V.int 4] (r:Int)=Α (.int ((if r=2 then 4 else 5:Nat):Int)):=by
   match r,aiD with
   |0,_=>rfl
   |1,_=>rfl
   |2,_=>rfl
  refine⟨_,Á,p,_,Á,.inl (aa.of (s2 _ _ Z.2.2)),_,Á,aW,_,(r:Int),_,Á,Á,hW H2,eat,Á,_,Á,bc Ġ Ġ⟩
  .let hd:¬ws.L=(if r=2 then 4 else 5):=by
    grind
   exact gX ((k2 Å).go m)
  .let hd:ws.L=(if r=2 then 4 else 5):=by
    grind
   rw[af hd] at Y;let h4:4<=ws.L:=by rw[hd];split <;> decide
   let qZ:=hp.E s2;let J:=s2 _ _ Z.2.2;let(q1,MH,As,Vd):=qZ.at (j:=1) Ô;let(q5,hq5,hx5,hh5):=qZ.at (j:=ws.L-3) (by grind);let(q6,hq6,Ve,hh6):=qZ.at (j:=ws.L-2) á;let(q7,hq7,hx7,hh7):=qZ.at (j:=ws.L-1) á;apply ais (r:=r) (w1:=ws.D 1 []) Á Á (aa.of J) As Vd (W 1) (λz=>(k2 (by rw[Y,z,Gb])).go m) λnm enm H3 an O hn3 han=>?_;apply ait (r:=r) (w1:=ws.D 1 []) Á Á (aa.of (O _ _ J)) As (O _ _ Vd) (W 1) (λz=>(k2 (by rw[Y,z,Gc])).go (m.R O)) λwh ewh H4 s4=>?_;let o6:=(m.R O).R s4;let MI:=O.R s4;apply(_,Á,_,Á,p,_,_,_,Á,Á,aa.of (MI _ _ J),MD (k:=3) Ù Å Ô,q5,ws.D (ws.L-3) [],8,Á,aa.of (MI _ _ hh5),W _,λcp ecp H5 s5=>?_,λz=>(k2 (by rw[Y,z,ME])).go o6);let w8:=o6.R s5;let MJ:=MI.R s5;apply(_,Á,_,Á,p,_,_,_,Á,Á,aa.of (MJ _ _ J),MD (k:=2) Ù Å Ô,Vc,q6,jQ,ws.D (ws.L-2) [],Á,hSh H5,by decide,aa.of (MJ _ _ hh6),λH6 s6=>?_);let yw:=w8.R s6;let Vf:=MJ.R s6;apply(_,Á,_,Á,p,_,_,_,Á,Á,aa.of (Vf _ _ J),MD (k:=1) Ù Å Ô,q7,ws.D (ws.L-1) [],Á,aa.of (Vf _ _ hh7),W _,λz H7 U=>?_,λlk elk H7 al MK=>?_)
   .let no:=(k2 (by rw[Y,z,Ge])).go (yw.R U);exact(_,Á,_,Á,bc (λ_=>gX no) (λ_=>⟨_,Á,_,Á,lJ (gX no)⟩))
   .let U:=MK.1;apply(_,Á,_,Á,bc (λhs=>?_) (λhs=>⟨_,Á,_,Á,nW ?_⟩))
    .let hs:oI (bC ă (ws.D (ws.L-2) []))=V.aK:=by simpa using hs
     let z:bC ă (ws.D (ws.L-2) [])=Β:=by
      cases z:bC ă (ws.D (ws.L-2) []) with
      |none=>rfl
      |some i=>rw[z] at hs;cases hs
     exact gX ((k2 (by rw[Y,z,Gd])).go (yw.R U))
    .let hs:¬oI (bC ă (ws.D (ws.L-2) []))=V.aK:=by simpa using hs
     obtain⟨sh,Vg⟩:∃i,bC ă (ws.D (ws.L-2) [])=Α i:=by
      cases z:bC ă (ws.D (ws.L-2) []) with
      |none=>rw[z] at hs;exact absurd Á hs
      |some i=>simp
     rw[Vg];apply(_,Á,_,Á,_,Á,_,Á,_,Á,_,Á,wZ Á λx dx H8 hx jf aU e8 s8=>?_);let Au:=yw.R U;let CW:iR line=Α ⟨r,nm,wh,cp,sh,lk⟩:=by rw[Y,enm,ewh,ecp,Vg,elk];rfl
     apply k1 _ CW H8 ⟨x,dx,an,al,⟨r,nm,wh,cp,sh,lk⟩⟩ (Au.R s8) Á Ϫ λy hy=>?_
     .simp only[kJ,aV,lj,lp] at hy;rcases hy with rfl|rfl|rfl
      .exact e8
      .exact s8 _ _ (U _ _ (s6 _ _ (s5 _ _ (s4 _ _ hn3))))
      .exact s8 _ _ MK.2.2
     .simp only[kJ,aV,lj,lp] at hy;rcases hy with rfl|rfl|rfl
      .exact Au.free hx
      .rcases han with rfl|z
       .symm
       .exact m.free z
      .exact yw.free MK.2.1
end
def Vh{K:FR}{H H':Hp}(s:ai H H'){vs:ay}{j:List PyData}(x:jc K H vs j):jc K H' vs j:=
 jc.rec (motive_1:=λv d _=>Dp K H' v d) (motive_2:=λvs j _=>jc K H' vs j) .aK .bl .int .str (λh _ r=>.lst (s.seq h) r) (λh _ r=>.tup (ai.tup s h) r) .nil (λ_ _ h r=>.cons h r) x
def aiO{K:FR}{H H':Hp}(s:ai H H'){v:V}{d:PyData}(x:Dp K H v d):Dp K H' v d:=by
 cases Vh s (.cons x .nil);assumption
theorem aiP{K:FR}{H:Hp}{vs:ay}:∀{j:List PyData}(n:Nat),jc K H vs j->jc K H (vs.take n) (j.take n):=by
 induction vs with
 |nil=>intro j n h;cases h;cases n <;> exact .nil
 |cons v vs m=>
  intro j n h;cases h with
  |cons h r=>cases n with
   |zero=>exact .nil
   |succ n=>exact .cons h (m n r)
theorem aiQ{K:FR}{H:Hp}{vs:ay}:∀{j:List PyData}{i:Nat}{v:V},jc K H vs j->vs[i]? =Α v->∃d,j[i]? =Α d/\Dp K H v d:=by
 induction vs with
 |nil=>intro j i v _ e;simp at e
 |cons v vs m=>
  intro j i v h e;cases h with
  |cons h r=>cases i with
   |zero=>
    let:=aO e;subst this;exact(_,Á,h)
   |succ i=>have q:=m (i:=i) r e;exact q
def Vi(xs:ay){i:Nat}(h:i<=xs.L):oY xs none (some (i:Int))=xs.take i:=by
 ext oY;rw[HT.Rt,HT.Ru,List.drop_zero,Nat.sub_zero,Nat.min_eq_left h]
def CY(xs:ay)(h:i<=xs.L):oY xs (some (i:Int)) none=xs.drop i:=by
 ext oY;rw[HT.Rt,HT.Ru,Nat.min_eq_left h];exact Io Ä
def vh{α:Type}{ys:ay}{L:List α}{g:α->V}(j:ys.L=L.L)(h:∀(i:Nat)(y:V)(x:α),ys[i]? =Α y->L[i]? =Α x->y=g x):ys=L.M g:=by
 apply xI;grind
def yx{n i:Nat}{x:Nat}(h:Èx[i]? =Α x):x=i:=by
 let(j,h2):=bO.mp h;rw[arR] at h2;exact h2.symm
def yy(j:List PyData)(i:Nat):Bool:=(j.take i).any λd=>PyData.eqv d (j.D i .none)
def ph(j:List PyData):Bool:=(List.range j.L).any (yy j)
inductive Vj(K:FR)(vs:ay)(H:Hp)(Q:VK)(E':XK):Prop
 |mk (p:Addr) (xs:ay) (ds:List PyData) (_:vs=[.ref p]) (_:ã p xs) (_:jc K H xs ds) (_:(∀d∈ds,SeqAt.shaped d=true)) (_:xs.L<=100000) (_:∀H',ai H H'->Q (.bl (ph ds)) H')
section
variable{P:Pg}{w:Wd}{K:FR}{mg:MG}{base:Heap}{CK CN N:Addr}
def ML:bQ ["things","place","thing"] ["things"] (aY K0):=cJ
def aiR{f:Addr}{fd:FD}(F:bx K "has_twice" "has_twice" K0 f fd)(tA:mg "any"=Β)(tE:mg "enumerate"=Β):Ì aF 1 f fd ["things"] (Vj K):=by
 refine F.ok ML Â;let(p,xs,j,rfl,J,hd,O,hl,k):=h;let hu:A.units+3+128<cLine:=by let:=hr.un;exact oN Ä this
 refine⟨_,aE (a0 (dc (RS Á) Ò tA boot_any (ae (eB (own:=[("place",1),("thing",2)]) (g:=g2 K 1 2) (te:=bV (S7 K) š (Ry (RB K) ύ Rv (Rw Ϟ))) Á ML.nd Âs Ê
  (λ_ _ _ _ _=>iM 1 2 ML.nd) Õ
  (λ_ _ _ _ _=>jI (J4 hu) è (xY xZ Ú xW (xX â)) (by with_unfolding_all rfl))) ah))),?_⟩
 apply(_,Á,p,xs,Á,J,λD hD=>l7 (K:=K) (a:=p) (xs:=xs) (cK H D λi y ns=>ns=[]/\y=.bl (yy j i)) Ď (λi H' _ f=>f.E.seq J) (λi x T H' hi f hT=>?_) ý)
 .let d7:=(bO.mp hi).1;apply(T,_,Á,bz.of aq,Á,_,_,Á,_,_,Á,Á,Á,eJ ?_);let s1:ai H' (upd H' T (.tup [.int (i:Nat),x])):=aN hT;let s2:=f.E.R s1;apply(_,Á,_,Á,_,Á,_,Á,p,xs,Á,s2.seq J,λc hc=>?_);let s3:=aN (o:=.lst (oY xs none (some (i:Int)))) hc;let(d,m,Y):=aiQ hd hi;apply(c,_,j.take i,d,Á,aa.of aq,?_,aiO Ĳ Y,λd hd=>O d (IB hd),O d (bY m),?_)
  .let z:=Vh Ĳ (aiP i hd);rw[Vi xs á] at z⊢;omega
  .refine f.step hD Ô Åk Ŷ aX.nil Ä;ext yy;symm
 .let(ys,s1,m,U,fl):=f.end;let W:ys=((List.range j.L).M (yy j)).M V.bl:=by
   rw[cZ];apply vh (by rw[U,gq,S9 hd]) λi y x Z h2=>?_;let(ns,(_,e),_):=fl i y Z;grind
  apply(D,(List.range j.L).M (yy j),Á,?_,?_)
  .rw[<-W];exact aa.of m
  .let q:=k H' s1;delta ph at q;symm
def iS(a b:hJ):Bool:=if a.role=0/\b.role=0 then true else HT.lexLt [(a.role:Nat),a.kI] [(b.role:Nat),b.kI]
inductive MM(CK:Addr)(vs:ay)(H:Hp)(Q:VK)(E':XK):Prop
 |mk (a b:aB) (_:vs=[.ref a.a,.ref b.a]) (_:aX H (kJ CK a)) (_:aX H (kJ CK b)) (_:∀H',ai H H'->Q (.bl (iS a.m b.m)) H')
def jy(h:aX H (kJ C k)):H k.a=Α (.ins C k.dx (wW k)):=h (k.a,_) (by simp[kJ])
def Vk(h:aX H (kJ C k)):H k.nm=Α (.lst (iv k.m.name)):=h (k.nm,_) (by simp[kJ])
def Vl(h:aX H (kJ C k)):H k.lk=Α (.lst (iv k.m.look)):=h (k.lk,_) (by simp[kJ])
def my(n m:Nat):decide (V.int (n:Nat)=V.int (m:Nat))=decide (n=m):=by
 grind
def aiS:bQ ["before","kind"] ["before","kind"] (aY KY):=cJ
def aiT(F:bx K "may_follow" "may_follow" KY f fd)(T:tI K CK)(cS:Cn mg "SIGN" ő):Ì aF 1 f fd ["before","kind"] (MM CK):=by
 refine F.ok aiS Â;let(a,b,rfl,j,J,k):=h;refine⟨_,aD (dv (PW.pt (pw_and (cV ir ś Ça (bW _)) (pw_and1 (cV ir Äv Ça (bW _))))) Âg eA)
  (aE (a0 (jI (ab2 hr.abQ) (uQ (ae ċ Äx)) (uQ (ae ŗ (ae ŗ ah))) (bW _)))),?_⟩
 let bT:¬(a.m.role=0/\b.m.role=0)->BG (bV (Rz K) (xU (bo (f7 K ύ "role") (bo (f7 K ύ "which") dQ))) (xU (bo (f7 K Ϟ "role") (bo (f7 K Ϟ "which") dQ)))) {nx:=λ_ H'=>Q .aK H',rt:=Q} [some (.ref a.a),some Çl] H:=λU=>by
  apply(_,Á,bh (jy j) T.c T.wY (wX a) ⟨_,Á,bh (jy j) T.c T.Mz (Mx a) ⟨(by show 2<=sizeLine;decide),λO h1=>?_⟩⟩);let s1:=aN (o:=.tup [.int (a.m.role:Nat),.int a.m.kI]) h1;apply(_,Á,bh (s1 _ _ (jy J)) T.c T.wY (wX b) ⟨_,Á,bh (s1 _ _ (jy J)) T.c T.Mz (Mx b) ⟨(by show 2<=sizeLine;decide),λt2 h2=>?_⟩⟩);let s2:=aN (o:=.tup [.int (b.m.role:Nat),.int b.m.kI]) h2;apply(O,t2,[(a.m.role:Nat),a.m.kI],[(b.m.role:Nat),b.m.kI],Á,Á,bz.of (s2 _ _ aq),bz.of aq,?_);let q:=k _ Áe;delta iS at q;lia
 refine⟨_,Á,bh (jy j) T.c T.wY (wX a) ĺ⟩;rw[show V.int 0=V.int ((0:Nat):Int) from rfl,my];refine bc Ū Ū
 .simp at h1;refine⟨_,Á,bh (jy J) T.c T.wY (wX b) ĺ⟩;rw[my];refine bc Ár Ár
  .simp at h2;let q:=k H ϊ;delta iS at q;rw[af ⟨h1,h2⟩] at q;exact q
  .simp at h2;exact bT λz=>h2 z.2
 .simp at h1;exact bT λz=>h1 z.1
end
def og{C:Addr}{H:Hp}{ks:List aB}(h:aX H (Aq C ks)){k:aB}(hk:k∈ks):aX H (kJ C k):=λx j=>h x (lr.mpr ⟨k,hk,j⟩)
def aiU(h:∀k∈ks,aX H (kJ C k)):aX H (Aq C ks):=λx j=>by
 let(k,hk,j):=lr.mp j;exact h k hk x j
theorem Gh{l:List aB}{i:Nat}{y:V}(h:(l.M λk=>V.ref k.a)[i]? =Α y):∃z,l[i]? =Α z/\y=V.ref z.a:=by
 rw[bU] at h;cases e:l[i]? with
 |none=>rw[e] at h;cases h
 |some z=>rw[e] at h;exact(z,Á,(aO h).symm)
def isSign(m:hJ):Bool:=decide (m.role=0)
def oh(ms:aG):Bool:=if (ms.J isSign).L<1\/(ms.J isSign).L>48 then false else (ms.zip (ms.drop 1)).all λp=>iS p.1 p.2
inductive Gi(CK:Addr)(b:aG->Bool)(vs:ay)(H:Hp)(Q:VK)(E':XK):Prop
 |mk (p:Addr) (ks:List aB) (_:vs=[.ref p]) (_:H p=Α (.lst (ks.M λk=>V.ref k.a))) (_:aX H (Aq CK ks)) (_:ks.L<=100000) (_:∀H',ai H H'->Q (.bl (b Í)) H')
def Gj{α:Type}{p:α->Bool}{l:List α}{i:Nat}{x:α}(h:l[i]? =Α x):(l.take (i+1)).J p=(l.take i).J p++(if p x=true then [x] else []):=by
 rw[take_snoc h,El];congr 1;by_cases z:p x=true
 .rw[af z];simp[z]
 .rw[ag z];simp[z]
section
variable{P:Pg}{w:Wd}{K:FR}{mg:MG}{base:Heap}{CK CL CN N:Addr}
def Av:bQ ["kinds","signs","kind","place"] ["kinds"] (aY KW):=cJ
def aiV{f:Addr}{fd:FD}(F:bx K "are_in_order" "are_in_order" KW f fd)(T:tI K CK)(tL:mg "len"=Β)(tA:mg "all"=Β)(tE:mg "enumerate"=Β)(cS:Cn mg "SIGN" ő)(cM:Cn mg "MOST_SIGNS" (.int 48))(dF:Ç 1 "may_follow" ["before","kind"] (MM CK)):Ì aF 2 f fd ["kinds"] (Gi CK oh):=by
 refine F.ok Av Â;let(p,ks,rfl,O,hk,hl,k):=h;refine⟨_,aD (cy 1 Av.nd (dc gf Ò tL PySem.boot_len (ae (eB (own:=[("kind",2)]) (tt:=nP (bV oW (f7 K š "role") Äh)) (te:=aA 2) Á Av.nd Åo Ê
   (λ_ _ _ _ _=>dy 2 Av.nd) (λ_ _ _ _ _=>qj (cV ir (bg è rfl) Ça (bW _))) Äe) ah)))
  (aD (dv (PW.pt (pw_or (cV xS â bp (bW _)) (pw_or1 (cV wa â (cj cM) (bW _))))) Âg eA)
  (aE (a0 (dc (wj rfl) Ò tA zm (ae (eB (own:=[("place",3),("kind",2)]) (g:=g2 K 3 2) (te:=ic (MM CK) [] E0 (bo (bV ž ύ Ş) (bo š dQ))) rfl Av.nd
   (lI Ò tE (ae (xY xZ Ú (xX bp) xW) ah)) Ê
   (λ_ _ _ _ _=>iM 3 2 Av.nd) Õ
   (λ_ _ _ _ _=>bH dF (ae (cQ c8 Ú ú Ø) ū))) ah))))),?_⟩
 let J:oh Í=if (ks.J λk=>isSign k.m).L<1\/(ks.J λk=>isSign k.m).L>48 then false else ((ks.M aB.m).zip ((ks.M aB.m).drop 1)).all λp=>iS p.1 p.2:=by
  ext oh;rw[zo,az];rfl
 refine⟨_,Á,p,Á,⟨_,aa.of O⟩,λD hD=>gC (K:=K) (a:=p) (xs:=ks.M λk=>V.ref k.a) (λi H'=>ai H H'/\H' D=Α (.lst (((ks.take i).J λk=>isSign k.m).M λk=>V.ref k.a))) ⟨aN hD,aq⟩
  (λi H' _ ⟨j,_⟩=>aa.of (j _ _ O)) (λi y H' hi ⟨j,hd⟩=>?_) (λH' ⟨j,hd⟩=>?_)⟩
 .let(z,hz,rfl):=Gh hi;let d7:=(bO.mp hz).1;let yz:=(og hk (bY hz)).E j;refine⟨Á,_,Á,bh (jy yz) T.c T.wY (wX z) ĺ⟩;rw[show V.int 0=V.int ((0:Nat):Int) from rfl,my];let Z:=Gj (p:=λk:aB=>isSign k.m) hz;refine bc Ï Ï
  .apply(_,Á,_,hd,?_,fu j hD,?_)
   .rw[az];let:=IE (λk:aB=>isSign k.m) (ks.take i);rw[nB] at this;exact g9 Ô
   .rw[aq,Z,af (show isSign z.m=true from hc),bZ];rfl
  .apply(j,?_);rw[Z,ag (show ¬isSign z.m=true from hc),jG];omega
 .rw[az,nE] at hd;apply(D,_,Á,.inl (aa.of hd),?_);rw[az];generalize (ks.J λk=>isSign k.m).L=n at J;refine⟨_,Á,_,_,Á,Á,_,Á,bc Ū Ū⟩
  .let h1:n<1:=by
    grind
   let q:=k H' j;rw[J,af (Or.inl h1)] at q;exact q
  .let h1:¬n<1:=by
    grind
   refine⟨_,Á,_,_,Á,Á,_,Á,bc Ár Ár⟩
   .let h2:n>48:=by
     lia
    let q:=k H' j;rw[J,af (Or.inr h2)] at q;exact q
   .let h2:¬n>48:=by
     lia
    rw[ag (λz=>z.elim h1 h2)] at J;apply(_,Á,_,Á,p,_,Á,aa.of (j _ _ O),λc hc=>?_);let ex:oY (ks.M λk=>V.ref k.a) (some 1) none=(ks.drop 1).M λk=>V.ref k.a:=by
     by_cases hz:1<=ks.L
     .rw[show(1:Int)=((1:Nat):Int) from rfl,CY _ Å,Qy]
     .let:ks=[]:=by
       symm
      rw[this];rfl
    rw[ex];let s2:=j.R (aN (o:=.lst ((ks.drop 1).M λk=>V.ref k.a)) hc);let U:(upd H' c (.lst ((ks.drop 1).M λk=>V.ref k.a))) c=Α (.lst ((ks.drop 1).M λk=>V.ref k.a)):=aq;generalize upd H' c (.lst ((ks.drop 1).M λk=>V.ref k.a))=H2 at s2 U;apply(c,_,Á,aa.of U,λY cg=>l7 (K:=K) (a:=c) (xs:=(ks.drop 1).M λk=>V.ref k.a) (cK H2 Y λi y ns=>ns=[]/\∃a b,ks[i]? =Α a/\ks[i+1]? =Α b/\y=.bl (iS a.m b.m)) Ãu (λi H3 _ f=>aa.of (f.E _ _ U)) (λi y Tt H3 hi f hT=>?_) Æk)
    .let(b,hb,rfl):=Gh hi;rw[Qp] at hb;let hb:ks[i+1]? =Α b:=by rw[<-hb];congr 1;lia
     let hib:=(bO.mp hb).1;obtain⟨a,ha⟩:∃a,ks[i]? =Α a:=⟨_,c7 Ô⟩;let s3:ai H3 (upd H3 Tt (.tup [.int (i:Nat),.ref b.a])):=aN hT;let W:=(s2.R f.E).R s3;refine ß;exact(_,Á,_,Á,p,_,(i:Int),.ref a.a,Á,Á,aa.of (W _ _ O),gc Å,_,Á,a,b,Á,(og hk (bY ha)).E W,(og hk Èe).E W,λH5 s5=>(f.step cg Ô (s3.R s5) ⟨Á,a,b,ha,hb,Á⟩ aX.nil Ä))
    .let(ys,s3,qy,Gk,fl):=f.end;let hz:((ks.M aB.m).zip ((ks.M aB.m).drop 1)).L=ys.L:=by
      symm
     let ey:ys=(((ks.M aB.m).zip ((ks.M aB.m).drop 1)).M λp=>iS p.1 p.2).M V.bl:=by
      rw[cZ];apply vh hz.symm λi y x h1 h2=>?_;let(ns,(_,a,b,ea,eb,e),_):=fl i y h1;grind
     apply(Y,_,Á,by rw[<-ey];exact aa.of qy,?_);let q:=k H3 Ĳ;symm
end
theorem yA{β:Type}{v:β->V}{nd:β->jw}{H:Hp}{ys:ay}:∀{R:Nat->β->Prop},J5 (λi y ns=>∃b,R i b/\y=v b/\ns=nd b) H ys->∃bs:List β,ys=bs.M v/\(∀(i:Nat)(b:β),bs[i]? =Α b->R i b)/\∀b∈bs,aX H (nd b):=by
 induction ys with
 |nil=>exact @λR _=>⟨[],Á,λi b h=>by simp at h,by simp⟩
 |cons y ys m=>
  intro R h;let(ns,(b,r,e,en),l):=h 0 y rfl;let(bs,j,J,F):=m (R:=λi b=>R (i+1) b) λi z hz=>h (i+1) z hz;apply(b::bs,by rw[j,e];rfl,λi c hc=>?_,λc hc=>?_)
  .cases i with
   |zero=>
    let:=aO hc;subst this;exact r
   |succ i=>exact J i c hc
  .rcases aV.mp hc with rfl|hc
   .rw[<-en];exact l
   .exact F c hc
theorem Vm{α:Type}{K:FR}{H:Hp}{v:α->V}{d:α->PyData}{l:List α}:(∀x∈l,Dp K H (v x) (d x))->jc K H (l.M v) (l.M d):=by
 induction l with
 |nil=>exact @λ_=>.nil
 |cons x l m=>
  intro h;exact .cons (h x Ä) (m λy j=>h y (aQ _ j))
def w9(m:hJ):PyData:=.list (m.name.M PyData.int)
def rW(m:hJ):PyData:=.tuple [.int (m.shape:Nat),.list (m.look.M PyData.int)]
def pj(ms:aG):Bool:=!ph ((ms.J isSign).M w9)&& !ph Çz
def aiX(m:hJ):SeqAt.shaped (rW m)=true:=by
 ext SeqAt.shaped rW;rw[jq,nD];refine Áp
 .simp only[PyData.canLay0,PyData.canLayAll0,SZ,Qm]
 .let:=S2 m.look;simp only[PyData.depth,PyData.depthAll];lia
section
variable{P:Pg}{w:Wd}{K:FR}{mg:MG}{base:Heap}{CK CL CN N:Addr}
def CZ:bQ ["kinds","names","faces","kind"] ["kinds"] (aY KZ):=cJ
def aiY{f:Addr}{fd:FD}(F:bx K "are_different" "are_different" KZ f fd)(T:tI K CK)(cS:Cn mg "SIGN" ő)(dT:Ç 1 "has_twice" ["things"] (Vj K)):Ì aF 2 f fd ["kinds"] (Gi CK pj):=by
 refine F.ok CZ Â;let(p,ks,rfl,Z,hk,hl,k):=h;refine⟨_,aD (uW (i:=1) (own:=[("kind",3)]) (tt:=nP (bV oW (f7 K Ş "role") Äh)) (te:=f7 K Ş "name") Á CZ.nd Á Á Ò Åo Ê
   (λ_ _ _ _ _=>dy 3 CZ.nd) (λ_ _ _ _ _=>qj (cV ir Èd Ça (bW _))) (λ_ _ _ _ _=>bg ú rfl))
  (aD (uW (i:=2) (own:=[("kind",3)]) (te:=xU (bo (f7 K Ş "shape") (bo (f7 K Ş "look") dQ))) rfl CZ.nd rfl rfl Ò Åo Ê
   (λ_ _ _ _ _=>dy 3 CZ.nd) Õ (λ_ _ _ _ _=>uQ (ae Èd (ae Èd ah))))
  (aE (a0 (uP (BE (bH dT Ŝ)) (sO (BE (bH dT ū))))))),?_⟩
 refine⟨_,Á,p,Á,⟨_,aa.of Z⟩,λD hD=>gC (K:=K) (a:=p) (xs:=ks.M λk=>V.ref k.a) (λi H'=>ai H H'/\H' D=Α (.lst (((ks.take i).J λk=>isSign k.m).M λk=>V.ref k.nm))) ⟨aN hD,aq⟩
  (λi H' _ ⟨j,_⟩=>aa.of (j _ _ Z)) (λi y H' hi ⟨j,hd⟩=>?_) (λH' ⟨j,hd⟩=>?_)⟩
 .let(z,hz,rfl):=Gh hi;let d7:=(bO.mp hz).1;let Y:=(og hk (bY hz)).E j;refine⟨Á,_,Á,bh (jy Y) T.c T.wY (wX z) ĺ⟩;rw[show V.int 0=V.int ((0:Nat):Int) from rfl,my];let et:=Gj (p:=λk:aB=>isSign k.m) hz;refine bc Ï Ï
  .apply(_,Á,bh (jy Y) T.c T.nName (U8 z) ⟨_,hd,?_,fu j hD,?_⟩)
   .rw[az];let:=IE (λk:aB=>isSign k.m) (ks.take i);rw[nB] at this;exact g9 Ô
   .rw[aq,et,af (show isSign z.m=true from hc),bZ];rfl
  .apply(j,?_);rw[et,ag (show ¬isSign z.m=true from hc),jG];omega
 .rw[az,nE] at hd;refine⟨_,Á,p,Á,⟨_,aa.of (j _ _ Z)⟩,λD2 cg=>gC (K:=K) (a:=p) (xs:=ks.M λk=>V.ref k.a) (cK H' D2 λi y ns=>∃b:Addr×aB,ks[i]? =Α b.2/\y=.ref b.1/\ns=[(b.1,.tup [.int (b.2.m.shape:Nat),.ref b.2.lk])]) Ãu
   (λi H2 _ f=>aa.of (f.E _ _ (j _ _ Z))) (λi y H2 hi f=>?_) Æl⟩
  .let(z,hz,rfl):=Gh hi;let d7:=(bO.mp hz).1;let Y:=(og hk (bY hz)).E (j.R f.E);apply(Á,eJ ⟨_,Á,bh (jy Y) T.c T.Ah (U9 z) ⟨_,Á,bh (jy Y) T.c T.Vb (Va z) ⟨(by show 2<=sizeLine;decide),λt ht=>?_⟩⟩⟩);apply f.step cg Ô (aN ht) ⟨(t,z),hz,Á,Á⟩ Às λx hx=>?_
   .let:x=(t,_):=lg.mp hx;subst this;exact aq
   .let:x=(t,_):=lg.mp hx;subst this;exact λe=>f.has Å
  .let(ys,s2,fY,ju,fl):=f.end;rw[az] at ju;let(bs,e1,r1,l1):=yA (v:=λb:Addr×aB=>V.ref b.1) (nd:=λb:Addr×aB=>[(b.1,.tup [.int (b.2.m.shape:Nat),.ref b.2.lk])]) (R:=λi b=>ks[i]? =Α b.2) fl;let U:=j.R s2;let eb:bs.M (·.2)=ks:=by
    apply xI;grind
   let fG:∀{O:Hp},ai H2 O->jc K O ys ((ks.M aB.m).M rW):=λ{O}J=>by
    rw[e1,<-eb,cZ,cZ];apply Vm λb W=>?_;let xb:b.2∈ks:=by rw[<-eb];exact ZS W
    refine .tup (bz.of (J _ _ (l1 b W (b.1,_) (lg.mpr Á)))) (.cons (.int _) (.cons (.lst (aa.of (J _ _ (U _ _ (Vl (og hk xb))))) (rM _)) .nil))
   let ef:(ks.M aB.m).J isSign=(ks.J λk=>isSign k.m).M aB.m:=by
    rw[zo];rfl
   apply(_,Á,D,_,((ks.J λk=>isSign k.m).M aB.m).M w9,Á,aa.of (s2 _ _ hd),?_,?_,?_,λO J=>⟨_,Á,_,Á,?_⟩)
   .rw[cZ];exact Vm λb W=>(.lst (aa.of (U _ _ (Vk (og hk ((jF.mp W).1))))) (rM _))
   .intro d hd;let(m,_,rfl):=b9.mp hd;exact shaped_ints _
   .grind
   .let q:=k;delta pj at q;rw[ef] at q;refine bc Ï Ï
    .rw[hc] at q;apply(_,Á,D2,_,(ks.M aB.m).M rW,Á,aa.of (J _ _ fY),fG J,λd hd=>?_,by simp_all,λH4 s4=>⟨_,rfl,q H4 ((U.R J).R s4)⟩);let(m,_,rfl):=b9.mp hd;exact aiX m
    .let hc:(!ph (((ks.J λk=>isSign k.m).M aB.m).M w9))=false:=by simpa using hc
     rw[hc,lU] at q;exact q O (U.R J)
end
def gR:dm->Option aG
 |[]=>some []
 |l::r=>match iR l,gR r with
  |some m,some ms=>some (m::ms)
  |_,_=>none
theorem Vn{r:dm}:∀{l:LI},l∈r->iR l=Β->gR r=Β:=by
 induction r with
 |nil=>intro l h;cases h
 |cons x r j=>
  intro l h e;ext gR;rcases aV.mp h with rfl|h
  .rw[e]
  .rw[j h e];cases iR x <;> rfl
theorem aiZ{r:dm}:∀{ms:aG},ms.L=r.L->(∀(i:Nat)l m,r[i]? =Α l->ms[i]? =Α m->iR l=Α m)->gR r=Α ms:=by
 induction r with
 |nil=>
  intro ms h _;cases ms with
  |nil=>rfl
  |cons _ _=>cases h
 |cons l r z=>
  intro ms h k;cases ms with
  |nil=>cases h
  |cons m ms=>
   ext gR;rw[k 0 l m rfl rfl,z (ms:=ms) (À h) λi l m j h2=>k (i+1) l m j h2]
def Aw(n:Option LI)(ks:Option aG):Option (LI×aG):=match n,ks with
 |some n,some ms=>if (oh ms&&pj ms)=true then some (n,ms) else none
 |_,_=>none
def fV(j:LI):Option (LI×aG):=match jP j with
 |some (l::r)=>Aw (fj (codes "locker") l) (gR r)
 |_=>none
def C0:Aw n none=Β:=by cases n <;> rfl
def C2:Aw none ks=Β:=by cases ks <;> rfl
def tK(CL CK:Addr)(l:ve):jw:=(l.a,.ins CL l.dx (F9 l))::(l.nm,.lst (iv l.name))::(l.kl,.lst (l.kinds.M λk=>V.ref k.a))::Aq CK l.kinds
inductive Vo(K:FR)(CL CK CN:Addr)(vs:ay)(H:Hp)(Q:VK)(E:XK):Prop
 |mk (ap:Addr) (bI:LI) (_:vs=[.ref ap]) (_:ã ap (iv bI)) (_:bI.L<=66000) (_:(∀x,fV bI=Α x->∀H' l,ai H H'->l.name=x.1->l.kinds.M aB.m=x.2->aX H' Ãp->l.kinds.L<=66000->Q (.ref l.a) H')) (_:(fV bI=Β->No E CN H))
section
variable{P:Pg}{w:Wd}{K:FR}{mg:MG}{base:Heap}{CK CL CN N:Addr}
def C3:bQ ["text","lines","name","kinds","line"] ["text"] (aY KQ):=cJ
def ai0{f:Addr}{fd:FD}(F:bx K "read_locker" "read_locker" KQ f fd)(X:ϓ "NoLocker" CN N)(dW:Ç 2 "whole_lines" ["text"] (Mu K)) (dN:Ç 4 "name_behind" ["title","line"] (Mt K)) (dK:č ę 5 "read_kind" ["line"] (MF K CK CN))(dO:Ç 2 ahi ["kinds"] (Gi CK oh)) (dD:Ç 2 "are_different" ["kinds"] (Gi CK pj)) (dL:ć "Locker" CL ["name","kinds"]):
  ba P w K mg base ę 6 f fd ["text"] (Vo K CL CK CN):=by
 let(fK,fdK,GK,mK,kK,bK):=dK;refine F.rK C3 Â;let(ap,z,rfl,hP,hl,k1,k2):=h;refine⟨_,aD (cy 1 C3.nd (bH dW õ))
  (aD (dv (PW.pt (pw_or (oS (rk â)) (pw_or1 (cV Ϻ â Ļ (bW _))))) Û eA)
  (aD (cy 2 C3.nd (bH dN (ae Ez ŝ)))
  (aD (SW (i:=3) (own:=[("line",4)]) (g:=qf 4) (tt:=BV) (te:=ic (MF K CK CN) [] E (bo Ãv dQ)) rfl yd C3.nd rfl rfl Ò (eW (xY xZ â (xX bp) xW)) Ê
   (λ_ _ _ _ _=>dy 4 C3.nd) Õ (λ_ _ _ _ _=>mG GK hr rfl mK kK bK .nil rJ Ϭ))
  (aD (dv (PW.pt (pw_or Æs (pw_or (qe (jH (bH dO Ĺ))) (pw_or1 (qe (jH (bH dD Ĺ)))))))
   (Û) eA)
  (aE (a0 (qB dL hr (ae è Ĺ)))))))),?_⟩
 apply(_,Á,ap,z,Á,hP,by lia,λH1 v s1 Y=>?_);let MN:∀L,jP z=Α L->L.L<=66000/\∀w∈L,w.L<=100000:=λL e=>by
  delta jP at e;split at e
  .let e:=aO e;subst e;apply(?_,λw hw=>?_)
   .rw[Zx];let:=FP 10 z;omega
   .let:=yq 10 z w (Bp _ hw);lia
  .symm
 let el:fV z=match jP z with
   |some (l::r)=>Aw (fj (codes "locker") l) (gR r)
   |_=>none:=rfl
 cases ew:jP z with
 |none=>
  rw[ew] at Y el;let Y:=Y;subst Y;exact(_,Á,_,Á,lJ (gX ((k2 el).go s1)))
 |some L=>
  let(hL1,m4):=MN L ew;rw[ew] at Y el;let(p,qs,rfl,qY,hp,qF,fr):=Y;apply(_,Á,_,Á,nW ⟨_,Á,du _,λU n1=>?_⟩);let s2:=aN (o:=.lst []) n1;let vd:=s2 _ _ hp;let MO:=qF.E s2;let fc:=s1.R s2;let Fq:(upd H1 U ä) U=Α ä:=aq;generalize upd H1 U ä=H2 at s2 vd MO fc Fq;refine⟨p,U,_,Á,Á,aa.of vd,aa.of Fq,_,Á,bc Ï Ï⟩
  .let hq:qs=[]:=by
    symm
   subst hq;cases MO;exact gX ((k2 el).go fc)
  .cases MO with
   |nil=>symm
   | @cons q l qs r hq vH=>
    let vH:eE H2 qs r:=vH;let el:fV z=Aw (fj (codes "locker") l) (gR r):=el;let wV:r.L<=66000:=by simp only[df] at hL1;lia
    let xc:=vH.len;apply⟨_,Á,p,_,0,V.ref q,Á,Á,aa.of vd,gc (j:=0) Á,"locker",q,l,Á,by decide,aa.of hq,m4 l Ä,λH3 vn s3 W=>?_⟩;let qC:=fc.R s3;apply(_,Á,_,Á,p,_,Á,aa.of (s3 _ _ vd),λc hc=>?_);rw[show oY ((q::qs).M V.ref) (some 1) none=qs.M V.ref from(CY _ (i:=1) Ä).R rfl];let s4:=aN (o:=.lst Äk) hc;let js:(upd H3 c Ē) c=Α Ē:=aq;generalize upd H3 c Ē=H4 at s4 js;let o6:=qC.R s4;let ai2:=vH.E (s3.R s4);refine⟨c,Á,⟨_,aa.of js⟩,λD hD=>gC (K:=K) (a:=c) (xs:=qs.M V.ref) (cK H4 D λi y ns=>∃b:aB,(∀l,r[i]? =Α l->iR l=Α b.m)/\y=.ref b.a/\ns=kJ CK b) Ď
     (λi H5 _ f=>aa.of (f.E _ _ js)) (λi y H5 hi f=>?_) (λH5 f=>?_)⟩
    .rw[bU] at hi;cases eq:qs[i]? with
     |none=>symm
     |some qi=>
      rw[eq] at hi;let ey:=aO hi;subst ey;let d7:=(bO.mp eq).1;let(q',_,O,h'):=ai2.at (j:=i) Å;rw[bU,eq] at O;let O:=aO O;injection O with O;subst O;let rB:r[i]? =Α (r.D i []):=by
       symm
      let xf:=bY rB;apply(Á,eJ ⟨_,Á,qi,r.D i [],Á,aa.of (f.E _ _ h'),m4 _ (aQ _ xf),λm em H6 kd J ek hkd j7=>?_,λen=>?_⟩)
      .apply f.step hD Ô J ⟨kd,λl hl=>?_,Á,Á⟩ hkd λx hx e=>f.has (by grind);symm
      .exact(k2 (by rw[el,Vn xf en,C0])).go (o6.R f.E)
    .let(ys,s5,MP,Vp,fl):=f.end;rw[az] at Vp;let(ks,U,r1,l1):=yA (v:=λb:aB=>V.ref b.a) (nd:=kJ CK) (R:=λi b=>∀l,r[i]? =Α l->iR l=Α b.m) fl;subst U;rw[az] at Vp;let MQ:gR r=Α Í:=aiZ Å λi l m h1 h2=>by
      grind
     rw[MQ] at el;let w8:=o6.R s5;let MR:=aiU l1;cases en:fj (codes "locker") l with
     |none=>
      rw[en,C2] at el;rw[en] at W;let W:=W;subst W;exact(_,Á,_,Á,lJ (gX ((k2 el).go w8)))
     |some nm=>
      rw[en] at W el;let(an,rfl,Aa,mz):=W;let el:fV z=if (oh Í &&pj Í)=true then some (nm,ks.M aB.m) else none:=el;apply(_,Á,_,Á,nW ⟨_,Á,D,ks,Á,MP,MR,by lia,λH6 J=>⟨_,rfl,bc (λZ=>?_) (λZ=>?_)⟩⟩)
      .simp at Z;rw[Z,lU,ag Ù] at el;exact gX ((k2 el).go (w8.R J))
      .simp at Z;refine⟨_,Á,D,ks,Á,J _ _ MP,MR.E J,by omega,λH7 s7=>⟨_,rfl,bc Ġ Ġ⟩⟩
       .simp at hd;rw[hd,zj,ag Ù] at el;exact gX ((k2 el).go ((w8.R J).R s7))
       .simp at hd;rw[Z,hd,Qm,af rfl] at el;let Gm:=J.R s7;apply(_,Á,_,Á,wZ Á λx dx H8 hx jf aU e8 s8=>?_);refine k1 _ el H8 ⟨x,dx,an,D,nm,ks⟩ ((w8.R Gm).R s8) Á Á Ϫ Å;simp only[tK,aV] at hy;rcases hy with rfl|rfl|rfl|hy
        .exact e8
        .exact s8 _ _ (Gm _ _ (s5 _ _ (s4 _ _ mz)))
        .exact s8 _ _ (Gm _ _ MP)
        .exact(MR.E (Gm.R s8)) y hy
end
end HD
namespace HD
open PySem PySem.Spec PyProof.Rows L2
def getD_map{α β:Type}{f:α->β}{l:List α}{i:Nat}{a:α}{d:β}(h:l[i]? =Α a):(l.M f).D i d=f a:=by
 symm
def getD_at{α:Type}{l:List α}{i:Nat}{a d:α}(h:l[i]? =Α a):l.D i d=a:=by
 symm
def iW(look:LI):Prop:=look.L=16/\∀x∈look,0<=x/\x<16
def getD_mem{l:LI}{i:Nat}(h:i<l.L):l.D i 0∈l:=by
 symm
def ai4{signs part l:LI}(h:jN signs part=Α l):l.L=part.L/\∀x∈l,0<=x/\x<signs.L:=by
 delta jN at h;grind
def ai5(h:iR line=Α m):m.shape<3/\iW m.look:=by
 delta iR pd at h;split at h
 .cases h
 .rename_i r W;by_cases J:(JM.aJ 32 line).L=(if r=2 then 4 else 5)
  .rw[af J] at h;generalize md r _=j at h;generalize rT r _=z at h;generalize iH _ 8=F at h;cases e4:bC ă ((JM.aJ 32 line).D ((JM.aJ 32 line).L-2) []) with
   |none=>rw[e4,Gd] at h;cases h
   |some sh=>
    rw[e4] at h;cases e5:iz ((JM.aJ 32 line).D ((JM.aJ 32 line).L-1) []) with
    |none=>rw[e5,Ge] at h;cases h
    |some lk=>
     rw[e5] at h
     match j,z,F,h with
     |some n,some w,some c,h=>
      let:=aO h;subst this;apply(Ar e4,?_);delta iz at e5;split at e5
      .rename_i U;let(O,p2):=ai4 e5;exact(O.R U,p2)
      .cases e5
  .symm
end HD
namespace HD
open PySem JM
def C4{p:Int->Bool}(h:((List.range 256).all λn=>p ((n:Nat):Int))=true)(j:0<=x/\x<=255):p x=true:=by
 let:=lV.mp h x.toNat (uG.mpr Ô);grind
def eqB(j:bf a)(m:bf Ũ)(e:(codes x).M B=Flags.ascii s):(a.M B=Flags.ascii s)↔a=codes x:=by
 rw[<-e];exact(λz=>wM j m z,λz=>by rw[z])
def vi(h:(codes x).all (λx=>decide (0<=x)&&decide (x<=255))=true):bf Ũ:=FO h
def hexVal(h:0<=x/\x<=255):Flags.hexValue (B x)=if lK.Y x=true then some (lK.idxOf x) else none:=by
 let:=C4 (p:=λx=>decide (Flags.hexValue (B x)=if lK.Y x=true then some (lK.idxOf x) else none)) È h;symm
def ai6(h:0<=x/\x<=255):Flags.isSign (B x)=(codes Ap).Y x:=by
 let:=C4 (p:=λx=>decide (Flags.isSign (B x)=(codes Ap).Y x)) È h;symm
theorem ai7{l:LI}:bf l->(l.M B).mapM Flags.hexValue=if l.all Ãm=true then some (l.M λb=>lK.idxOf b) else none:=by
 induction l with
 |nil=>exact @λ_=>Á
 |cons x r m=>
  intro h;let m:=m λz hz=>h z (aQ _ hz);rw[a8,IA,hexVal (h x gn),m,sC];by_cases j:lK.Y x=true
  .rw[af j,j,lW];by_cases h2:r.all Ãm=true
   .rw[af h2,af h2];rfl
   .rw[ag h2,ag h2];rfl
  .rw[ag j];let j:lK.Y x=false:=by simpa using j
   rw[j,lU,ag d8];rfl
def eT(l:LI):Nat:=Flags.lookOf λi=>(l.D i 0).toNat
def Vq{l:LI}(h:bf l):Flags.lookIn Ľ=(iz l).M eT:=by
 ext Flags.lookIn iz;rw[az];by_cases e:l.L=16
 .rw[ag (λq=>q e),af e,ai7 h];ext jN;by_cases h2:l.all Ãm=true
  .rw[af h2,af h2];apply cw (λf=>some (Flags.lookOf f)) (funext λi=>?_);rw[ip,ip,bU,bU];cases l[i]? with
   |none=>rfl
   |some x=>rfl
  .rw[ag h2,ag h2];rfl
 .rw[af e,ag e];rfl
def Gn(h:bf l):Flags.isName Ľ=iQ l:=by
 ext Flags.isName iQ;rw[az,sD,show l.all (Flags.isSign∘B)=l.all λb=>(codes Ap).Y b from KB h λx j=>ai6 j]
theorem digit_eq(h:bf l)(m:Nat):Flags.digitOf m Ľ=(iH l (m:Int)).M Int.toNat:=by
 ext Flags.digitOf iH
 match l,h with
 |[],_=>rfl
 |[d],h=>
  let hd:=h d gn;show(if 49<=(B d).toNat/\(B d).toNat<=48+m then some ((B d).toNat-48) else none)=Option.map Int.toNat (if d<49\/d>48+(m:Int) then none else some (d-48));rw[KA hd];by_cases c:d<49\/d>48+(m:Int)
  .rw[af c,ag Ô];rfl
  .rw[ag c,af Å];congr 1;grind
 |a::b::r,_=>rfl
def Vr(a b c w:LI):bC [a,b,c] w=if a=w then some 0 else if b=w then some 1 else if c=w then some 2 else none:=by
 ext bC;grind
def ai8(h:bf w):Flags.shapeOf Į=bC ă w:=by
 ext Flags.shapeOf;show _=bC [codes "square",codes "tails",codes "long"] w;rw[Vr];let j:=eqB (a:=w) (x:="square") (s:="square") h Æm È;let m:=eqB (a:=w) (x:="tails") (s:="tails") h Æm È;let z:=eqB (a:=w) (x:="long") (s:="long") h Æm È;grind
def qG(m:hJ):Flags.Role:=if m.role=0 then .sign (m.name.M B) else if m.role=1 then .same m.kI.toNat else .answer
def bX(m:hJ):Flags.Kind:=⟨qG m,m.copies.toNat,m.shape,eT m.look⟩
def MS(hc:bf c)(hs:bf s)(j:bf l)(R:Flags.Role)(hR:∀a b d,qG ⟨r,n,wh,a,b,d⟩=R):
  Flags.kindOf R Æd (s.M B) Ľ=(rV r (some n) (some wh) (iH c 8) (bC ă s) (iz l)).M bX:=by
 ext Flags.kindOf;rw[show Flags.digitOf 8 Æd=(iH c 8).M Int.toNat from digit_eq hc 8,ai8 hs,Vq j];cases e1:iH c 8 with
 |none=>rfl
 |some a=>
  cases e2:bC ă s with
  |none=>rfl
  |some b=>
   cases e3:iz l with
   |none=>rfl
   |some d=>
    show some _=Α (bX ⟨r,n,wh,a,b,d⟩);ext bX;symm
def ai9{line:LI}(h:bf line):Flags.kindIn (line.M B)=(iR line).M bX:=by
 ext Flags.kindIn iR;rw[show Flags.cutAt 32 (line.M B)=(aJ 32 line).M ê from yp 32 Ù line h];let m:=qv 32 (l:=line) h;generalize aJ 32 line=ws at m;let rm:∀w:LI,bC ϙ w=if codes "sign"=w then some 0 else if codes "same"=w then some 1 else if codes "answer"=w then some 2 else none:=λw=>Vr _ _ _ w;let d1:¬codes "sign"=codes "same":=by decide+kernel
 let d2:¬codes "sign"=codes "answer":=by decide+kernel
 let d3:¬codes "same"=codes "answer":=by decide+kernel
 let short:∀v:dm,v.L≠4->v.L≠5->pd v=Β:=λv h4 h5=>by
  ext pd;split
  .rfl
  .rename_i r _;rw[ag];by_cases z:r=2
   .rw[af z];exact h4
   .rw[ag z];exact h5
 match ws,m with
 |[],_=>rw[short [] Ù Ù];rfl
 |[a],_=>rw[short [a] Ä Ä];rfl
 |[a,b],_=>rw[short [a,b] Ä Ä];rfl
 |[a,b,c],_=>rw[short [a,b,c] Ä Ä];rfl
 |[a,c,s,l],m=>
  let W:=m a Ä;let ea:=eqB (a:=a) (x:="answer") (s:="answer") W Æm È;show(if a.M B=Flags.ascii "answer" then Flags.kindOf .answer Æd (s.M B) Ľ else none)=_;let Z:pd [a,c,s,l]=if codes "answer"=a then rV 2 (some []) (some 0) (iH c 8) (bC ă s) (iz l) else none:=by
   ext pd;rw[show([a,c,s,l]:dm).D 0 []=a from rfl,rm a];by_cases F:codes "sign"=a
   .rw[af F,ag (λz=>d2 (F.R z.symm))];rfl
   .rw[ag F];by_cases J:codes "same"=a
    .rw[af J,ag (λz=>d3 (J.R z.symm))];rfl
    .rw[ag J];by_cases O:codes "answer"=a
     .rw[af O,af O];rfl
     .rw[ag O,ag O]
  rw[Z];by_cases O:a=codes "answer"
  .rw[af (ea.mpr O),af O.symm];exact MS (m c Ä) (m s Ä) (m l Ä) .answer λ_ _ _=>Á
  .rw[ag (λz=>O (ea.mp z)),ag (λz:codes "answer"=a=>O z.symm)];rfl
 |[a,n,c,s,l],m=>
  let W:=m a Ä;let hn:=m n Ä;let e1:=eqB (a:=a) (x:="sign") (s:="sign") W Æm È;let Y:=eqB (a:=a) (x:="same") (s:="same") W Æm È;show(if a.M B=Flags.ascii "sign"/\Flags.isName Èr=true then Flags.kindOf (.sign Èr) Æd (s.M B) Ľ else if a.M B=Flags.ascii "same" then (Flags.digitOf 4 Èr).bind (λ(j:Nat)=>Flags.kindOf (.same j) Æd (s.M B) Ľ) else none)=_;let Z:pd [a,n,c,s,l]=if codes "sign"=a then rV 0 (md 0 n) (some 0) (iH c 8) (bC ă s) (iz l) else if codes "same"=a then rV 1 (some []) (iH n 4) (iH c 8) (bC ă s) (iz l) else none:=by
   ext pd;rw[show([a,n,c,s,l]:dm).D 0 []=a from rfl,rm a];by_cases F:codes "sign"=a
   .rw[af F,af F];rfl
   .rw[ag F,ag F];by_cases J:codes "same"=a
    .rw[af J,af J];rfl
    .rw[ag J,ag J];by_cases O:codes "answer"=a
     .rw[af O];rfl
     .rw[ag O]
  rw[Z,Gn hn];by_cases F:a=codes "sign"
  .rw[af F.symm];by_cases U:iQ n=true
   .rw[af ⟨e1.mpr F,U⟩,show md 0 n=Α n by ext md;rw[af rfl,af U]];exact MS (m c Ä) (m s Ä) (m l Ä) (.sign Èr) λ_ _ _=>Á
   .rw[ag (λz=>U z.2),ag (λz=>d1 (F.symm.R (Y.mp z))),show md 0 n=Β by ext md;rw[af rfl,ag U],Gb];rfl
  .rw[ag (λz:_/\_=>F (e1.mp z.1)),ag (λz:codes "sign"=a=>F z.symm)];by_cases J:a=codes "same"
   .rw[af (Y.mpr J),af J.symm,show Flags.digitOf 4 Èr=(iH n 4).M Int.toNat from digit_eq hn 4];cases e:iH n 4 with
    |none=>rw[Gc];rfl
    |some j=>
     exact MS (m c Ä) (m s Ä) (m l Ä) (.same j.toNat) λ_ _ _=>Á
   .rw[ag (λz=>J (Y.mp z)),ag (λz:codes "same"=a=>J z.symm)];rfl
 |a::b::c::d::e::g::r,_=>rw[short _ Ä Ä];rfl
def oj:LN->Nat
 |[]=>0
 |d::r=>d%16+16*oj r
theorem aja(x:Nat):∀l:LN,oj (l++[x])=oj l+16^l.L*(x%16):=by
 intro l;induction l with
 |nil=>
  simp[oj]
 |cons d r j=>
  show d%16+16*oj (r++[x])=d%16+16*oj r+16^(r.L+1)*(x%16);rw[j,Nat.mul_add,QA,<-Nat.mul_assoc,Nat.mul_comm 16 (16^r.L)];lia
theorem ajb(f:Nat->Nat):∀n,((List.range n).M λi=>f i%16*16^i).sum=oj ((List.range n).M f):=by
 intro n;induction n with
 |zero=>exact Á
 |succ n j=>
  rw[IF,bZ,bZ,List.sum_append,j];show _+(f n%16*16^n+0)=oj (_++[f n]);rw[aja,az,gq,Nat.mul_comm (16^n)];rfl
theorem Vs:∀(i:Nat)(l:LN),oj l/16^i%16=l.D i 0%16
 |i,[]=>by simp[oj]
 |0,d::r=>by
  show(d%16+16*oj r)/16^0%16=d%16;rw[Nat.pow_zero,Nat.div_one];symm
 |i+1,d::r=>by
  show(d%16+16*oj r)/16^(i+1)%16=r.D i 0%16;rw[Nat.pow_succ',<-Nat.div_div_eq_div_mul,show(d%16+16*oj r)/16=oj r by lia];exact Vs i r
def Gp(f:Nat->Nat)(h:i<16):Flags.cell (Flags.lookOf f) i=f i%16:=by
 ext Flags.cell Flags.lookOf;rw[ajb,Vs,ip,bU,QB h];rfl
def C5(h:iW l)(hi:i<16):Flags.cell (eT l) i=(l.D i 0).toNat:=by
 ext eT;rw[Gp _ hi];let(j,m):=h.2 _ (getD_mem (l:=l) (i:=i) (by rw[h.1];exact hi));symm
def ajc{a b:LI}(j:iW a)(m:iW b)(e:eT a=eT b):a=b:=by
 apply xI;intro i;by_cases hi:i<16
 .let z:=C5 j hi;let h2:=C5 m hi;rw[e,h2] at z;let ga:=j.2 _ (getD_mem (l:=a) (i:=i) (by rw[j.1];exact hi));let F:=m.2 _ (getD_mem (l:=b) (i:=i) (by rw[m.1];exact hi));let:a.D i 0=b.D i 0:=by grind
  rw[ip,ip,c7 (by rw[j.1];exact hi),c7 (by rw[m.1];exact hi)] at this;rw[c7 (by rw[j.1];exact hi),c7 (by rw[m.1];exact hi)];exact cw some this
 .rw[zl (by rw[j.1];symm),zl (by rw[m.1];omega)]
structure Kv(m:hJ):Prop where
 role:m.role<3
 Vt:m.role≠1->m.kI=0
 C6:m.role=1->1<=m.kI/\m.kI<=4
 nm:bf m.name
 lk:iW m.look
 sh:m.shape<3
 cp:1<=m.copies/\m.copies<=8
def Vu(h:iH w most=Α d):1<=d/\d<=most:=by
 delta iH at h;grind
def Vv{line:LI}(Y:bf line){m:hJ}(h:iR line=Α m):Kv m:=by
 let(U,Z):=ai5 h;delta iR pd at h;let J:=qv 32 (l:=line) Y;generalize aJ 32 line=ws at h J;split at h
 .cases h
 .rename_i r W;let hr:r<3:=Ar W;by_cases O:ws.L=(if r=2 then 4 else 5)
  .rw[af O] at h;let j:bf Ŕ:=by
    rw[ip];cases e:ws[1]? with
    |none=>exact λx F=>absurd F Ä
    |some w=>exact J w (bY e)
   cases e1:md r Ŕ with
   |none=>rw[e1,Gb] at h;cases h
   |some n=>
    cases e2:rT r Ŕ with
    |none=>rw[e2,Gc] at h;cases h
    |some wh=>
     cases e3:iH (ws.D (ws.L-3) []) 8 with
     |none=>rw[e3,ME] at h;cases h
     |some c=>
      cases e4:bC ă (ws.D (ws.L-2) []) with
      |none=>rw[e4,Gd] at h;cases h
      |some sh=>
       cases e5:iz (ws.D (ws.L-1) []) with
       |none=>rw[e5,Ge] at h;cases h
       |some lk=>
        rw[e1,e2,e3,e4,e5] at h;let:=aO h;subst this;apply(hr,λz=>?_,λz=>?_,?_,Z,U,Vu e3)
        .delta rT at e2;rw[ag z] at e2;exact(aO e2).symm
        .delta rT at e2;rw[af z] at e2;exact Vu e2
        .delta md at e1;split at e1
         .split at e1
          .rw[<-aO e1];exact j
          .cases e1
         .rw[<-aO e1];exact λx F=>absurd F Ä
  .rw[ag O] at h;cases h
theorem MT{r:dm}:∀{ms:aG},(∀l∈r,bf l)->gR r=Α ms->∀m∈ms,Kv m:=by
 induction r with
 |nil=>
  intro ms _ h m j;let:=aO h;subst this;exact absurd j Ä
 |cons l r J=>
  intro ms F h m j;delta gR at h;cases e1:iR l with
  |none=>rw[e1] at h;cases gR r <;> cases h
  |some k=>
   rw[e1] at h;cases e2:gR r with
   |none=>rw[e2] at h;cases h
   |some ks=>
    rw[e2] at h;let:=aO h;subst this;rcases aV.mp j with rfl|j
    .exact Vv (F l Ä) e1
    .exact J (λz hz=>F z (aQ _ hz)) e2 m j
def tP(kp:Kv p)(kx:Kv x)(h:x.role=0):iS p x=true↔p.role=0:=by
 ext iS;by_cases c:p.role=0/\x.role=0
 .symm
 .rw[ag c,HT.uU];symm
def xg(kp:Kv p)(kx:Kv x)(h:x.role=1):iS p x=true↔p.role=0\/(p.role=1/\p.kI<x.kI):=by
 ext iS;rw[ag ì,HT.uU];by_cases c:((p.role:Nat):Int)=((x.role:Nat):Int)
 .rw[af c,HT.uU];by_cases d:p.kI=x.kI
  .rw[af d];constructor
   .intro z;cases z
   .lia
  .lia
 .grind
def Gq{p x:hJ}(kp:Kv p)(kx:Kv x)(h:x.role=2):iS p x=true↔ ¬p.role=2:=by
 ext iS;let j:=kx.Vt Å;rw[ag ì,HT.uU];by_cases c:((p.role:Nat):Int)=((x.role:Nat):Int)
 .let h2:=kp.Vt Ô;rw[af c,HT.uU,af (by rw[j,h2])];constructor
  .intro z;cases z
  .intro z;lia
 .rw[ag c,nD];let:=kp.role;lia
def aje{a b c:hJ}(F:Kv a)(z:Kv b)(kc:Kv c)(j:iS a b=true)(h2:iS b c=true):iS a c=true:=by
 let W:=z.role;let hc:=kc.role;let J:b.role=0\/b.role=1\/b.role=2:=by lia
 let m:c.role=0\/c.role=1\/c.role=2:=by lia
 rcases m with m|m|m
 .rw[tP z kc m] at h2;rw[tP F z h2] at j;rw[tP F kc m];exact j
 .rw[xg z kc m] at h2;rw[xg F kc m];rcases h2 with h2|⟨h2,O⟩
  .rw[tP F z h2] at j;exact .inl j
  .rw[xg F z h2] at j;rcases j with j|⟨j,U⟩
   .exact .inl j
   .exact .inr ⟨j,by lia⟩
 .rw[Gq z kc m] at h2;rw[Gq F kc m];rcases J with J|J|J
  .rw[tP F z J] at j;symm
  .rw[xg F z J] at j;lia
  .exact absurd J h2
theorem MU:∀{ms:aG},(∀m∈ms,Kv m)->(((ms.zip (ms.drop 1)).all λp=>iS p.1 p.2)=true↔ms.Pairwise λp x=>iS p x=true)
 |[],_=>by simp
 |[a],_=>by simp
 |a::b::r,h=>by
  let O:=MU (ms:=b::r) λm J=>h m (aQ _ J);let F:(a::b::r).zip ((a::b::r).drop 1)=(a,b)::(b::r).zip ((b::r).drop 1):=rfl;rw[F,sC,jq,O,Bm (a:=a)];constructor
  .rintro⟨j,h2⟩;apply(λy z=>?_,h2);rcases aV.mp z with rfl|z
   .exact j
   .exact aje (h a Ä) (h b Ä) (h y (by simp[z])) j ((Bm.mp h2).1 y z)
  .rintro⟨j,h2⟩;exact(j b Ä,h2)
theorem pw_place{α:Type}{R:α->α->Prop}{l:List α}:l.Pairwise R↔ ∀(i:Nat)x,l[i]? =Α x->∀p∈l.take i,R p x:=by
 induction l with
 |nil=>
  simp
 |cons a r F=>
  rw[Bm,F];constructor
  .rintro⟨z,h2⟩ i x m p j;cases i with
   |zero=>simp at j
   |succ i=>
    rw[Qz] at j;rcases aV.mp j with rfl|j
    .exact z x (bY m)
    .exact h2 i x m p j
  .intro h;apply(λx m=>?_,λi x m p j=>h (i+1) x m p (by rw[Qz];exact aQ _ j));let(i,hi,e):=qV m;exact h (i+1) x (by show r[i]? =Α x;rw[c7 hi,e]) a (by rw[Qz];simp)
def MV{j:List PyData}:ph j=false↔j.Pairwise λd e=>PyData.eqv d e=false:=by
 rw[pw_place];ext ph;rw[List.any_eq_false];constructor
 .intro h i x m p z;let hi:=(bO.mp m).1;let:=h i (uG.mpr hi);delta yy at this;symm
 .intro h i hi;let hi:=uG.mp hi;obtain⟨x,m⟩:∃x,j[i]? =Α x:=⟨_,c7 hi⟩;let:=h i x m;ext yy;symm
def MW(a b:hJ):PyData.eqv (w9 a) (w9 b)=decide (a.name=b.name):=L2.ye _ _
def Vw(a b:hJ):PyData.eqv (rW a) (rW b)=(decide (a.shape=b.shape)&&decide (a.look=b.look)):=by
 ext rW;simp only[PyData.eqv,PyData.eqvAll,L2.ye,QC];grind
def Vx(p x:hJ):Prop:=p.role=0/\x.role=0/\p.name=x.name
def Gr(p x:hJ):Prop:=p.shape=x.shape/\p.look=x.look
def yB(ps:aG)(x:hJ):Prop:=(∀p∈ps,iS p x=true/\¬Vx p x/\¬Gr p x)/\(x.role=0->ps.L<48)
def four{A B C D:Bool}{w x y z:Nat}:(if A=true then some w else if B=true then some x else if C=true then some y else if D=true then some z else none)=Β↔A=false/\B=false/\C=false/\D=false:=by
 grind
def yC(m:hJ):(bX m).isSign=decide (m.role=0):=by
 ext bX Flags.Kind.isSign qG;grind
def yD(h:m.role=0):(bX m).role=.sign (m.name.M B):=by show qG m=_;ext qG;rw[af h]
def Ax(h:m.role=1):(bX m).role=.same m.kI.toNat:=by show qG m=_;ext qG;rw[ag Å,af h]
def Gs(k:Kv m)(h:m.role=2):(bX m).role=.answer:=by show qG m=_;ext qG;rw[ag Å,ag Å]
def Ay{ps:aG}{f:Flags.Kind->Bool}:((ps.M bX).any f=false)↔ ∀p∈ps,f (bX p)=false:=by
 simp
def Az(kp:Kv p)(kx:Kv x):((bX p).shape==(bX x).shape&&(bX p).look==(bX x).look)=false↔ ¬Gr p x:=by
 show(p.shape==x.shape&&eT p.look==eT x.look)=false↔_;ext Gr;by_cases h:p.shape=x.shape
 .by_cases h2:p.look=x.look
  .symm
  .let j:=λz=>h2 (ajc kp.lk kx.lk z);symm
 .simp[h]
def Vy{ps:aG}{x:hJ}(kp:∀p∈ps,Kv p)(kx:Kv x):Flags.wrongBehind (ps.M bX) (bX x)=Β↔yB ps x:=by
 ext Flags.wrongBehind;rw[four,Ay];let hr:=kx.role;let j:x.role=0\/x.role=1\/x.role=2:=by lia
 rcases j with j|j|j
 .rw[yD j,yC,Ay,Ay,az,eN j,lW];ext yB;constructor
  .rintro⟨m,h2,O,J⟩;apply(λp hp=>⟨?_,λz=>?_,(Az Ō kx).mp (J p hp)⟩,λ_=>?_)
   .rw[tP Ō kx j];let:=m p hp;rw[yC] at this;symm
   .let:=h2 p hp;rw[yD z.1,z.2.2] at this;symm
   .let:¬Flags.SIGNS<=ps.L:=by simpa using O
    let e:Flags.SIGNS=48:=rfl;symm
  .rintro⟨m,h2⟩;apply(λp hp=>?_,λp hp=>?_,?_,λp hp=>(Az Ō kx).mpr (m p hp).2.2)
   .let:=(tP Ō kx j).mp (m p hp).1;rw[yC,this];rfl
   .let U:=(tP Ō kx j).mp (m p hp).1;rw[yD U];let W:=(m p hp).2.1;rw[xD];intro z;injection z with z;exact W ⟨U,j,wM (kp p hp).nm kx.nm z⟩
   .let:=h2 j;let e:Flags.SIGNS=48:=rfl;symm
 .rw[Ax j,yC,Ay,Ay,fZ á,lU];ext yB;let Y:=kx.C6 j;constructor
  .rintro⟨m,h2,O,J⟩;apply(λp hp=>⟨?_,λz=>?_,(Az Ō kx).mp (J p hp)⟩,λz=>?_)
   .rw[xg Ō kx j];let Bu:=(kp p hp).role;let F:p.role=0\/p.role=1\/p.role=2:=by lia
    rcases F with F|F|F
    .exact .inl F
    .apply .inr ⟨F,?_⟩;let:=h2 p hp;rw[Ax F] at this;let:=arP this;let:=(kp p hp).C6 F;lia
    .let:=m p hp;rw[Gs Ō F] at this;simp at this
   .let:=z.2.1;lia
   .omega
  .rintro⟨m,h2⟩;apply(λp hp=>?_,λp hp=>?_,Á,λp hp=>(Az Ō kx).mpr (m p hp).2.2)
   .rcases(xg Ō kx j).mp (m p hp).1 with z|z
    .rw[yD z];rfl
    .rw[Ax z.1];rfl
   .rcases(xg Ō kx j).mp (m p hp).1 with z|z
    .rw[yD z]
    .rw[Ax z.1];let:=(kp p hp).C6 z.1;exact fZ (by grind)
 .rw[Gs kx j,yC,Ay,fZ (by omega:¬x.role=0),lU];ext yB;constructor
  .rintro⟨m,h2,O,J⟩;apply(λp hp=>⟨?_,λz=>?_,(Az Ō kx).mp (J p hp)⟩,λz=>?_)
   .rw[Gq Ō kx j];intro F;let:=m p hp;rw[Gs Ō F] at this;simp at this
   .let:=z.2.1;lia
   .omega
  .rintro⟨m,h2⟩;apply(λp hp=>?_,Á,Á,λp hp=>(Az Ō kx).mpr (m p hp).2.2);let z:=(Gq Ō kx j).mp (m p hp).1;let Bu:=(kp p hp).role;let F:p.role=0\/p.role=1:=by lia
   rcases F with F|F
   .rw[yD F];rfl
   .rw[Ax F];rfl
def yE:aG->aG->Prop
 |_,[]=>True
 |past,x::r=>yB past x/\yE (past++[x]) r
def yF(ms:aG):Prop:=∃m∈ms,m.role=0
def Vz:((ms.M bX).all λ(k:Flags.Kind)=>!k.isSign)=true↔ ¬yF ms:=by
 rw[sD,lV];ext yF;constructor
 .rintro h ⟨m,j,e⟩;let:=h m j;simp only[ar8,yC,e] at this;symm
 .intro h m j;let:¬m.role=0:=λe=>h ⟨m,j,e⟩;simp only[ar8,yC];symm
def ajf(j:aG)(ls:dm)(z:LI):Prop:=z=[]/\∃ms,gR ls=Α ms/\yE j ms/\yF (j++ms)
def ajg(ls:dm):∀(z:LI)(i:Nat)(past:aG),(∀l∈ls,bf l)->(∀p∈past,Kv p)->
  (∀ms,z=[]->gR ls=Α ms->yE past ms->yF (past++ms)->Flags.judgeLines i ŋ ((ls++[z]).M ê)=.ok ((past++ms).M bX))/\(¬ajf past ls z->∃e,Flags.judgeLines i ŋ ((ls++[z]).M ê)=.error e):=by
 induction ls with
 |nil=>
  intro z i past _ kp;let e:Flags.judgeLines i ŋ (([]++[z]:dm).M ê)=if z.M B≠[]\/((past.M bX).all λ(k:Flags.Kind)=>!k.isSign)=true then .error (1,i) else .ok ŋ:=rfl;rw[e];constructor
  .intro ms hz hk _ hs;let:=aO hk;subst this;rw[jG] at hs⊢;rw[ag];rintro (h|h)
   .exact h (by rw[hz];rfl)
   .exact(Vz.mp h) hs
  .intro h;rw[af]
   .exact(_,Á)
   .by_cases hz:z=[]
    .right;rw[Vz];intro hs;exact h ⟨hz,[],Á,trivial,by rw[jG];exact hs⟩
    .left;intro q;exact hz (List.map_eq_nil_iff.mp q)
 |cons w r ih=>
  intro z i past J kp;obtain⟨y,Z,er⟩:∃y Z,(r++[z]).M ê=y::Z:=by
   cases r with
   |nil=>exact(_,_,Á)
   |cons a b=>exact(_,_,Á)
  let e:Flags.judgeLines i ŋ (((w::r)++[z]).M ê)=match Flags.kindIn Į with
    |none=>.error (1,i)
    |some x=>match Flags.wrongBehind ŋ x with
     |some e=>.error (e,i)
     |none=>Flags.judgeLines (i+1) (past.M bX++[x]) ((r++[z]).M ê):=by
   show Flags.judgeLines i ŋ (w.M B::(r++[z]).M ê)=_;rw[er];rfl
  rw[e,ai9 (J w Ä)];let vj:=λl hl=>J l (aQ _ hl);cases ek:iR w with
  |none=>
   apply(λms _ hk=>?_,λ_=>⟨_,Á⟩);rw[Vn (l:=w) Ä ek] at hk;cases hk
  |some x=>
   let kx:=Vv (J w Ä) ek;let U:∀p∈past++[x],Kv p:=λp m=>by
    rcases gM.mp m with m|m
    .exact kp p m
    .rw[lg.mp m];exact kx
   let(W,Y):=ih z (i+1) (past++[x]) vj U;rw[bZ] at W Y;let MQ:∀ms,gR (w::r)=Α ms->∃j,gR r=Α j/\ms=x::j:=λms hk=>by
    delta gR at hk;rw[ek] at hk;cases e2:gR r with
    |none=>rw[e2] at hk;cases hk
    |some ks=>
     rw[e2] at hk;exact(ks,Á,(aO hk).symm)
   show(∀ms,z=[]->_->_->_->(match Flags.wrongBehind ŋ (bX x) with
     |some e=>.error (e,i)
     |none=>Flags.judgeLines (i+1) (past.M bX++[bX x]) ((r++[z]).M ê):Except Flags.Fault (List Flags.Kind))=_)/\(_->∃e,(match Flags.wrongBehind ŋ (bX x) with
     |some e=>.error (e,i)
     |none=>Flags.judgeLines (i+1) (past.M bX++[bX x]) ((r++[z]).M ê):Except Flags.Fault (List Flags.Kind))=_)
   constructor
   .intro ms hz hk hs F;let(j,O,rfl):=MQ ms hk;rw[(Vy kp kx).mpr hs.1];let:=W j hz O hs.2 (by rw[qW];exact F);apply this.R ?_;rw[qW];rfl
   .intro h;cases ew:Flags.wrongBehind ŋ (bX x) with
    |some e=>exact(_,Á)
    |none=>
     apply Y λg=>h ?_;let(hz,j,O,zr,F):=g;apply(hz,x::j,?_,⟨(Vy kp kx).mp ew,zr⟩,by rw[qW] at F;exact F);ext gR;rw[ek,O]
theorem aji:∀{ms j:aG},yE j ms↔ ∀(i:Nat)x,ms[i]? =Α x->yB (j++ms.take i) x:=by
 intro ms;induction ms with
 |nil=>
  intro j;simp[yE]
 |cons a r F=>
  intro j;show yB j a/\yE (j++[a]) r↔_;rw[F];constructor
  .rintro⟨z,h2⟩ i x m;cases i with
   |zero=>
    let:=aO m;subst this;simpa using z
   |succ i=>
    let:=h2 i x m;rw[qW] at this;exact this
  .intro h;apply(by simpa using h 0 a rfl,λi x m=>?_);let:=h (i+1) x m;rw[qW];exact this
theorem ajj{ms:aG}:(∀m∈ms,Kv m)->(ms.Pairwise λp x=>iS p x=true)->0<(ms.J isSign).L->∃x,ms[(ms.J isSign).L-1]? =Α x/\x.role=0:=by
 induction ms with
 |nil=>
  intro _ _ h;simp at h
 |cons a r Y=>
  intro kv W h;let(Z,p2):=Bm.mp W;let kr:=λm U=>kv m (aQ _ U);by_cases z:a.role=0
  .let J:(a::r).J isSign=a::r.J isSign:=by
    rw[xJ,af (show isSign a=true by ext isSign;simpa using z)]
   rw[J,df,Nat.add_sub_cancel];by_cases hz:0<(r.J isSign).L
   .let(x,j,F):=Y kr p2 hz;apply(x,?_,F);obtain⟨k,O⟩:∃k,(r.J isSign).L=k+1:=⟨(r.J isSign).L-1,by lia⟩;rw[O] at j⊢;exact j
   .rw[show(r.J isSign).L=0 by lia];exact(a,Á,z)
  .exfalso;let:(a::r).J isSign=[]:=by
    rw[ar9];intro x j hs;let F:x.role=0:=by delta isSign at hs;simpa using hs
    rcases aV.mp j with rfl|j
    .exact z F
    .exact z ((tP (kv a Ä) (kr x j) F).mp (Z x j))
   rw[this] at h;simp at h
def ajk{ms:aG}(kv:∀m∈ms,Kv m)(J:ms.Pairwise λp x=>iS p x=true){i:Nat}{x:hJ}(z:ms[i]? =Α x)(F:x.role=0):i+1<=(ms.J isSign).L:=by
 let hi:=(bO.mp z).1;let O:∀p∈ms.take (i+1),isSign p=true:=λp j=>by
  rw[take_snoc z] at j;ext isSign;rw[nD];rcases gM.mp j with j|j
  .exact(tP (kv p (IB j)) (kv x (bY z)) F).mp (pw_place.mp J i x z p j)
  .symm
 let U:((ms.take (i+1)).J isSign).L=i+1:=by
  rw[List.filter_eq_self.mpr O,nB];lia
 let W:ms.J isSign=(ms.take (i+1)).J isSign++(ms.drop (i+1)).J isSign:=by
  rw[<-El,Iw]
 symm
def VC{ms:aG}(kv:∀m∈ms,Kv m):(oh ms&&pj ms)=true↔yE [] ms/\yF ms:=by
 let oR:=MU kv;rw[aji,jq];ext oh pj;rw[jq];let tn:((!ph ((ms.J isSign).M w9))=true)↔ms.Pairwise λp x=>¬Vx p x:=by
  rw[show((!ph ((ms.J isSign).M w9))=true)↔ph ((ms.J isSign).M w9)=false by simp,MV,Iz,asa];constructor
  .intro h;apply h.imp λ{a b}O z=>?_;let:=O (by ext isSign;simpa using z.1) (by ext isSign;simpa using z.2.1);rw[MW,z.2.2] at this;simp at this
  .intro h;apply h.imp λ{a b}O Y Z=>?_;rw[MW,ID];exact λz=>O ⟨by delta isSign at Y;simpa using Y,by delta isSign at Z;simpa using Z,z⟩
 let tf:((!ph Çz)=true)↔ms.Pairwise λp x=>¬Gr p x:=by
  rw[show((!ph Çz)=true)↔ph Çz=false by simp,MV,Iz];constructor
  .intro h;apply h.imp λ{a b}O z=>?_;rw[Vw,z.1,z.2] at O;simp at O
  .intro h;apply h.imp λ{a b}O=>?_;rw[Vw,Bool.and_eq_false_iff];by_cases c:a.shape=b.shape
   .right;rw[ID];exact λz=>O ⟨c,z⟩
   .left;rw[ID];exact c
 rw[tn,tf];let kO:1<=(ms.J isSign).L↔yF ms:=by
  ext yF;constructor
  .intro h;obtain⟨x,j⟩:∃x,x∈ms.J isSign:=by
    cases e:ms.J isSign with
    |nil=>rw[e] at h;simp at h
    |cons x r=>exact(x,by simp)
   exact(x,(jF.mp j).1,by let:=(jF.mp j).2;delta isSign at this;simpa using this)
  .rintro⟨m,hm,W⟩;let:m∈ms.J isSign:=jF.mpr ⟨hm,by ext isSign;simpa using W⟩;exact List.length_pos_of_mem this
 constructor
 .rintro⟨F,h2,h3⟩;split at F
  .cases F
  .rename_i hc;let U:=oR.mp F;apply(λi x j=>⟨λp J=>?_,λW=>?_⟩,kO.mp Ô)
   .rw[zp] at J;exact(pw_place.mp U i x j p J,pw_place.mp h2 i x j p J,pw_place.mp h3 i x j p J)
   .let:=ajk kv U j W;rw[zp,nB];grind
 .rintro⟨F,h2⟩;let U:ms.Pairwise λp x=>iS p x=true:=pw_place.mpr λi x j p J=>((F i x j).1 p (by rw[zp];exact J)).1;apply(?_,pw_place.mpr λi x j p J=>((F i x j).1 p (by rw[zp];exact J)).2.1,pw_place.mpr λi x j p J=>((F i x j).1 p (by rw[zp];exact J)).2.2);let n1:=kO.mpr h2;rw[ag,oR]
  .exact U
  .rintro (z|z)
   .lia
   .let(x,j,tJ):=ajj kv U (by assumption);let:=(F _ x j).2 tJ;let hl:=(bO.mp j).1;rw[zp,nB] at this;grind
def ajl(h:bf l):Flags.nameIn Ľ=(fj (codes "locker") l).M λn=>n.M B:=by
 ext Flags.nameIn fj;rw[show Flags.cutAt 32 Ľ=(aJ 32 l).M ê from yp 32 Ù l h];let j:=qv 32 (l:=l) h;generalize aJ 32 l=W at j
 match W,j with
 |[],_=>rfl
 |[a],_=>rfl
 |[a,b],j=>
  let m:=eqB (a:=a) (x:="locker") (s:="locker") (j a Ä) Æm È;show(if a.M B=Flags.ascii "locker"/\Flags.isName ϝ=true then some ϝ else none)=Option.map _ (if a=codes "locker"/\iQ b=true then some b else none);rw[Gn (j b Ä)];by_cases c:a=codes "locker"/\iQ b=true
  .rw[af c,af ⟨m.mpr c.1,c.2⟩];rfl
  .rw[ag c,ag (λz:_/\_=>c ⟨m.mp z.1,z.2⟩)];rfl
 |a::b::c::r,_=>rfl
def ajm(h:bf t):(∀x,fV t=Α x->Flags.judge Ád=.ok ⟨x.1.M B,x.2.M bX⟩)/\(fV t=Β->∃e,Flags.judge Ád=.error e):=by
 let pz:Flags.cutAt 10 Ád=(aJ 10 t).M ê:=yp 10 Ù t h;let O:=qv 10 (l:=t) h;obtain⟨ls,z,ew⟩:∃ls z,aJ 10 t=ls++[z]:=by
  rcases qA (aJ 10 t) with e|⟨r,x,e⟩
  .exact absurd e (l8 10 t)
  .symm
 let hw:jP t=if z=[] then some ls else none:=by
  ext jP;symm
 rw[ew] at pz O;cases ls with
 |nil=>
  let J:fV t=Β:=by
   ext fV;symm
  let F:Flags.judge Ád=.error (1,0):=by
   ext Flags.judge;symm
  symm
 |cons w r=>
  let ER:=O w Ä;let W:∀l∈r,bf l:=λl J=>O l (by simp[J]);obtain⟨y,r',er⟩:∃y r',(r++[z]).M ê=y::r':=by
   cases r with
   |nil=>simp
   |cons a b=>simp
  let F:∀n,Flags.nameIn Į=Α n->Flags.judge Ád=(Flags.judgeLines 1 [] ((r++[z]).M ê)).M λ(l:List Flags.Kind)=>(⟨n,l⟩:Flags.Locker):=λn m=>by
   ext Flags.judge;symm
  let U:Flags.nameIn Į=Β->Flags.judge Ád=.error (1,0):=λm=>by
   ext Flags.judge;symm
  let J:fV t=if z=[] then Aw (fj (codes "locker") w) (gR r) else none:=by
   ext fV;grind
  rw[J];let m:=ajl ER;let(Y,Z):=ajg r z 1 [] W Ä;simp only[mr,zp] at Y Z;cases en:fj (codes "locker") w with
  |none=>
   rw[en] at m;apply(λx j=>?_,λ_=>⟨(1,0),U m⟩);rw[C2] at j;symm
  |some n=>
   rw[en] at m;let F:=F _ m;rw[F];constructor
   .intro x j;split at j
    .rename_i hz;cases ek:gR r with
     |none=>rw[ek,C0] at j;cases j
     |some ms=>
      rw[ek] at j;let j:(if (oh ms&&pj ms)=true then some (n,ms) else none)=Α x:=j;split at j
      .rename_i ho;let:=aO j;subst this;let(o1,o2):=(VC (MT W ek)).mp ho;rw[Y ms hz ek o1 o2];rfl
      .symm
    .symm
   .intro j;let(e,ee):=Z λg=>by
     let(hz,ms,hk,hs,kO):=g;rw[af hz,hk] at j;let j:(if (oh ms&&pj ms)=true then some (n,ms) else none)=Β:=j;rw[af ((VC (MT W hk)).mpr ⟨hs,by assumption⟩)] at j;symm
    exact(e,by rw[ee];rfl)
def iX(c:Int):Option Nat:=if c=16 then none else some c.toNat
def C7:Told->Flags.PlateLine
 |.side s l=>.seen s (eT l)
 |.hoist k=>.hoist (decide (k%2=1)) (decide (k/2=1))
 |.shape k=>.flag k
 |.row l=>.cells (l.M iX)
def ajo(h:0<=x/\x<=255):Flags.cellIn (B x)=if qu.Y x=true then some (iX ((qu.idxOf x:Nat):Int)) else none:=by
 let:=C4 (p:=λx=>decide (Flags.cellIn (B x)=if qu.Y x=true then some (iX ((qu.idxOf x:Nat):Int)) else none)) È h;symm
theorem ajp{l:LI}:bf l->(l.M B).mapM Flags.cellIn=if l.all Ãl=true then some (l.M λb=>iX ((qu.idxOf b:Nat):Int)) else none:=by
 induction l with
 |nil=>exact @λ_=>Á
 |cons x r m=>
  intro h;let m:=m λz hz=>h z (aQ _ hz);rw[a8,IA,ajo (h x gn),m,sC];by_cases j:qu.Y x=true
  .rw[af j,j,lW];by_cases h2:r.all Ãl=true
   .rw[af h2,af h2];rfl
   .rw[ag h2,ag h2];rfl
  .rw[ag j];let j:qu.Y x=false:=by simpa using j
   rw[j,lU,ag d8];rfl
def ajq{w:LI}(j:bf w):(if (w.M B).L=4 then ((w.M B).mapM Flags.cellIn).M Flags.PlateLine.cells else none)=(kC w).M λl=>C7 (.row l):=by
 ext kC;rw[az];by_cases h:w.L=4
 .rw[af h,af h,ajp j];ext jN;by_cases h2:w.all Ãl=true
  .rw[af h2,af h2];show some (Flags.PlateLine.cells _)=Α (Flags.PlateLine.cells _);rw[cZ];rfl
  .rw[ag h2,ag h2];rfl
 .rw[ag h,ag h];rfl
def VD(h:ws.Y w=false):bC ws w=Β:=by
 ext bC;grind
def ajr(j:bf w):fH Į=(bC iF w).M λk=>(decide (k%2=1),decide (k/2=1)):=by
 let hs:=ag4 j;by_cases h:iF.Y w=true
 .let h':w∈iF:=by simpa using h
  simp only[iF,aV,lj,lp] at h';rcases h' with rfl|rfl|rfl|rfl <;> decide+kernel
 .let h:iF.Y w=false:=by simpa using h
  rw[VD h];symm
def ajs(j:bf w):fF Į=bC iG w:=by
 let hs:=ag5 j;by_cases h:iG.Y w=true
 .let h':w∈iG:=by simpa using h
  simp only[iG,aV,lj,lp] at h';rcases h' with rfl|rfl|rfl|rfl <;> decide+kernel
 .let h:iG.Y w=false:=by simpa using h
  rw[VD h];symm
def ajt(h:wN c=true):(32:Int)∉c:=λj=>by
 delta wN at h;let:=lV.mp (vO.mp h).2 32 j;exact absurd this Ù
def VE:wN c=(iz c).isSome:=by
 ext wN iz jN;grind
def aju(hs:s∈[0,1,2]):(32:Int)∉JM.dZ s:=by
 let:s=0\/s=1\/s=2:=À hs
 rcases this with rfl|rfl|rfl <;> decide+kernel
def ajv(hs:s∈[0,1,2])(hc:(32:Int)∉c):aJ 32 (jM++32::(JM.dZ s++32::c))=[jM,JM.dZ s,c]:=by
 rw[Us 32 _ (show(32:Int)∉jM by decide),Us 32 _ (aju hs),agY 32 hc]
def ajw(hs:s∈[0,1,2]):bC va (JM.dZ s)=Α s:=by
 let:s=0\/s=1\/s=2:=À hs
 rcases this with rfl|rfl|rfl <;> decide+kernel
def ajx(h:bC ws w=Α i):ws[i]? =Α w:=by
 delta bC at h;let(j,h2,_):=Iy.mp h;symm
def ajy(J:bf w):(match [0,1,2].find? (pS Į) with
  |some s=>(Flags.lookIn ((w.M B).drop (6+(Flags.sideWord s).L))).M λ(x:Nat)=>Flags.PlateLine.seen s x
  |none=>none)=(HD.dZ w).M (λx=>C7 (.side x.1 x.2))/\([0,1,2].find? (pS Į)=Β↔HD.dZ w=Β):=by
 let up:∀s∈[0,1,2],pS Į s=true->∃c l,w=jM++32::(JM.dZ s++32::c)/\iz c=Α l/\HD.dZ w=Α (s,l):=λs hs W=>by
  let(c,e,hc):=(Uv J hs).mp W;let F:=ajt hc;rw[VE] at hc;let(l,j):=Ij.mp hc;apply(c,l,e,j,?_);ext HD.dZ;rw[e,ajv hs F];dsimp only;rw[af rfl,ajw hs,j]
 cases ef:[0,1,2].find? (pS Į) with
 |some s=>
  let hs:=List.mem_of_find?_eq_some ef;let(c,l,e,j,es):=up s hs (List.find?_some ef);apply(?_,⟨λz=>(by cases z),λz=>Å⟩);rw[es];show Option.map _ _=Α (Flags.PlateLine.seen s (eT l));let(m,_,_):=Uu s hs;let ed:(w.M B).drop (6+(Flags.sideWord s).L)=c.M B:=by
   rw[m,az,<-Qy];congr 1;let U:w=preOf (JM.dZ s)++c:=by
    rw[e];ext preOf;simp
   let el:(preOf (JM.dZ s)).L=6+(JM.dZ s).L:=by
    ext preOf;simp[jM];lia
   grind
  let Y:bf c:=λx hx=>J x Å;rw[ed,Vq Y,j];rfl
 |none=>
  let hn:HD.dZ w=Β:=by
   cases es:HD.dZ w with
   |none=>rfl
   |some x=>
    exfalso;delta HD.dZ at es;split at es
    .rename_i a b c ec;split at es
     .rename_i Z;cases U:bC va b with
      |none=>symm
      |some s=>
       cases m:iz c with
       |none=>symm
       |some l=>
        let hb:=ajx U;let JI:s<3:=(bO.mp hb).1;let hs:s∈[0,1,2]:=by
         grind
        let wC:b=JM.dZ s:=by
         ext JM.dZ;symm
        let O:w=jM++32::(JM.dZ s++32::c):=by
         let g:=ag0 32 w;rw[ec,Z,wC] at g;exact g.symm
        let W:=(Uv J hs).mpr ⟨c,O,by rw[VE,m];rfl⟩;grind
     .symm
    .symm
  symm
def ajB{w:LI}(j:bf w):Flags.plateLine Į=(kG w).M C7:=by
 rw[ag6,ajr j,ajs j,ajq j];let(m,z):=ajy j;ext kG;cases ef:[0,1,2].find? (pS Į) with
 |some s=>
  rw[ef] at m z;dsimp only at m⊢;cases es:HD.dZ w with
  |none=>exact absurd (z.mpr es) Ä
  |some x=>
   rw[es] at m;exact m
 |none=>
  rw[z.mp ef];dsimp only;cases e1:bC iF w with
  |some k=>rfl
  |none=>
   cases e2:bC iG w with
   |some k=>rfl
   |none=>
    show(kC w).M _=_;cases kC w <;> rfl
def iB(s:Nat×LI):Flags.Seen:=Flags.seenOf s.1 (s.2.M iX)
def jh(g:iP):Flags.Glimpse:=⟨g.above,g.below,g.flags.M iB⟩
def m5(m:fT):Flags.Plate:=⟨eT m.classes,m.side,m.ak.M jh⟩
inductive Open:fT->Flags.PlateState->Prop
 |vk {m:fT} {s:Flags.PlateState}:s.flag=Β->s.hoists=m.ak.M jh->(∀g∈m.ak,∀f∈g.flags,f.2.L=16)->Open m s
 |opened {m:fT} {s:Flags.PlateState} (gs:List iP) (a b:Bool) (fs:List (Nat×LI)) (k:Nat) (cs:LI):m.ak=gs++[⟨a,b,fs++[(k,cs)]⟩]->s.flag=Α (k,cs.M iX)->s.hoists=gs.M jh++[⟨a,b,fs.M iB⟩]->
   cs.L<16->cs.L%4=0->(∀g∈gs,∀f∈g.flags,f.2.L=16)->(∀f∈fs,f.2.L=16)->Open m s
structure AA(m:fT)(s:Flags.PlateState):Prop where
 head:s.head=if m.classes=[] then none else some (m.side,eT m.classes)
 op:Open m s
 hd:m.classes=[]->m.ak=[]
theorem Gu{m:fT}(h:∀g∈m.ak,∀f∈g.flags,f.2.L=16):jO m=false:=by
 ext jO;cases e:m.ak.getLast? with
 |none=>rfl
 |some g=>
  dsimp only;cases e2:g.flags.getLast? with
  |none=>rfl
  |some f=>
   dsimp only;rw[h g (Ek e) f (Ek e2)];rfl
def ajC(l:List α)(x:α):(l++[x]).getLast?=Α x:=by simp
def Gv(h:m.ak=gs++[⟨a,b,fs++[(k,cs)]⟩])(j:cs.L<16):jO m=true:=by
 ext jO;symm
def MX(f:α->β)(l:List α):(l.M f).getLast?=l.getLast?.M f:=by
 simp
theorem VF(s:Flags.Seen)(g:Flags.Glimpse):∀l:List Flags.Glimpse,Flags.putFlag s (l++[g])=l++[{g with flags:=g.flags++[s]}]
 |[]=>rfl
 |[x]=>rfl
 |x::y::r=>by
  show x::Flags.putFlag s (y::r++[g])=_;rw[VF s g (y::r)];rfl
def VG:Told->Prop
 |.side _ l=>l.L=16
 |.row l=>l.L=4
 |_=>True
def ajD{m:fT}{s:Flags.PlateState}(r:AA m s){t:Told}(ht:VG t):
  (dw m t.sort=true->∃s',s.line (C7 t)=Α s'/\AA (rS m t) s')/\(dw m t.sort=false->s.line (C7 t)=Β):=by
 let(U,ho,hd):=r;let ajE:m.classes≠[]->s.head.isSome=true:=λhc=>by rw[U,ag hc];rfl
 let ajF:m.classes=[]->s.head=Β:=λhc=>by rw[U,af hc]
 let emp:m.classes.isEmpty=true↔m.classes=[]:=by simp
 let Gw:m.classes.isEmpty=false↔m.classes≠[]:=by simp
 let opn:m.classes=[]->s.flag=Β/\s.hoists=[]:=λhc=>by
  let O:=hd hc;cases ho with
  |vk j h2 _=>symm
  |opened gs a b fs k cs j=>symm
 let e4:Flags.MOST=4:=rfl;let e8:Flags.LONG=8:=rfl;cases t with
 |side sd l=>
  show(dw m 0=true->_)/\(dw m 0=false->_);let F:dw m 0=m.classes.isEmpty:=by ext dw;simp
  rw[F];show(_->∃s',(if s.head=Β then some {s with head:=Α (sd,eT l)} else none)=Α s'/\_)/\(_->(if s.head=Β then some {s with head:=Α (sd,eT l)} else none)=Β);constructor
  .intro h;let hc:=emp.mp h;let(o1,o2):=opn hc;apply(_,af (ajF hc),?_);let hl:l≠[]:=λz=>by
    let U:l.L=16:=ht;symm
   apply(?_,.vk o1 (by show s.hoists=m.ak.M jh;rw[o2,hd hc];rfl) (λg O=>by rw[show(rS m (.side sd l)).ak=m.ak from rfl,hd hc] at O;simp at O),λz=>absurd z hl);show some (sd,eT l)=if l=[] then none else some (sd,eT l);symm
  .symm
 |hoist k=>
  show(dw m 1=true->∃s',(if s.head.isSome=true/\s.flag=Β/\s.hoists.L<Flags.MOST/\(match s.hoists.getLast? with
   |some g=>!g.flags.isEmpty
   |none=>true)=true then some {s with hoists:=s.hoists++[(⟨decide (k%2=1),decide (k/2=1),[]⟩:Flags.Glimpse)]} else none)=Α s'/\_)/\(dw m 1=false->(if s.head.isSome=true/\s.flag=Β/\s.hoists.L<Flags.MOST/\(match s.hoists.getLast? with
   |some g=>!g.flags.isEmpty
   |none=>true)=true then some {s with hoists:=s.hoists++[(⟨decide (k%2=1),decide (k/2=1),[]⟩:Flags.Glimpse)]} else none)=Β)
  by_cases hc:m.classes=[]
  .let F:dw m 1=false:=by ext dw;simp[hc]
   symm
  .let Z:=Gw.mpr hc;cases ho with
   |opened gs a b fs W cs j h2 J Y h5 h6 h7=>
    let F:dw m 1=false:=by ext dw;simp[Z,Gv j Y]
    symm
   |vk j h2 J=>
    let F:dw m 1=(decide (m.ak.L<4)&& !lL m):=by ext dw;simp[Z,Gu J]
    let el:(match s.hoists.getLast? with
     |some g=>!g.flags.isEmpty
     |none=>true)=!lL m:=by
     ext lL;rw[h2,MX];cases m.ak.getLast? with
     |none=>rfl
     |some g=>
      show(!(g.flags.M iB).isEmpty)=!g.flags.isEmpty;cases g.flags <;> rfl
    rw[F,el];let ajH:(s.head.isSome=true/\s.flag=Β/\s.hoists.L<Flags.MOST/\(!lL m)=true)↔(decide (m.ak.L<4)&& !lL m)=true:=by
     symm
    constructor
    .intro h;apply(_,af (ajH.mpr h),?_);apply(?_,.vk j ?_ ?_,λz=>absurd z hc)
     .show s.head=if m.classes=[] then none else some (m.side,eT m.classes);omega
     .show s.hoists++_=(m.ak++[_]).M jh;rw[h2,bZ];rfl
     .intro g O;rcases gM.mp O with O|O
      .grind
      .symm
    .symm
 |shape k=>
  show(dw m 2=true->∃s',(if s.head.isSome=true/\s.flag=Β/\(match s.hoists.getLast? with
   |some g=>decide (g.flags.L<Flags.LONG)
   |none=>false)=true then some {s with flag:=Α (k,[])} else none)=Α s'/\_)/\(dw m 2=false->(if s.head.isSome=true/\s.flag=Β/\(match s.hoists.getLast? with
   |some g=>decide (g.flags.L<Flags.LONG)
   |none=>false)=true then some {s with flag:=Α (k,[])} else none)=Β)
  by_cases hc:m.classes=[]
  .let F:dw m 2=false:=by ext dw;simp[hc]
   symm
  .let Z:=Gw.mpr hc;cases ho with
   |opened gs a b fs W cs j h2 J Y h5 h6 h7=>
    let F:dw m 2=false:=by ext dw;simp[Z,Gv j Y]
    symm
   |vk j h2 J=>
    let F:dw m 2=(match m.ak.getLast? with
     |some g=>decide (g.flags.L<8)
     |none=>false):=by
     ext dw;rw[Z,Gu J];rfl
    let el:(match s.hoists.getLast? with
     |some g=>decide (g.flags.L<Flags.LONG)
     |none=>false)=(match m.ak.getLast? with
     |some g=>decide (g.flags.L<8)
     |none=>false):=by
     rw[h2,MX];cases m.ak.getLast? with
     |none=>rfl
     |some g=>
      show decide ((g.flags.M iB).L<8)=decide (g.flags.L<8);rw[az]
    rw[F,el];constructor
    .intro h;apply(_,af ⟨ajE hc,j,h⟩,?_);rcases qA m.ak with e|⟨gs,g,e⟩
     .symm
     .apply(U,.opened gs g.above g.below g.flags k [] ?_ Á ?_ Ù Ù ?_ ?_,λz=>absurd z hc)
      .show m.ak.dropLast++(m.ak.getLast?.M _).toList=_;symm
      .rw[h2,e,bZ];rfl
      .grind
      .grind
    .symm
 |row l=>
  let Mh:l.L=4:=ht;show(dw m 3=true->∃s',(match s.flag with
   |some (k,mm)=>if (mm++l.M iX).L=16 then some {s with hoists:=Flags.putFlag (Flags.seenOf k (mm++l.M iX)) s.hoists,flag:=Β} else some {s with flag:=Α (k,mm++l.M iX)}
   |none=>none)=Α s'/\_)/\(dw m 3=false->(match s.flag with
   |some (k,mm)=>if (mm++l.M iX).L=16 then some {s with hoists:=Flags.putFlag (Flags.seenOf k (mm++l.M iX)) s.hoists,flag:=Β} else some {s with flag:=Α (k,mm++l.M iX)}
   |none=>none)=Β)
  cases ho with
  |vk j h2 J=>
   let F:dw m 3=false:=by
    ext dw;by_cases hc:m.classes=[]
    .symm
    .simp[Gw.mpr hc,Gu J]
   symm
  |opened gs a b fs W cs j h2 J Y h5 h6 h7=>
   let hc:m.classes≠[]:=λz=>by let:=hd z;rw[j] at this;simp at this
   let F:dw m 3=true:=by ext dw;simp[Gw.mpr hc,Gv j Y]
   rw[F,h2];apply(λ_=>?_,λz=>(by cases z));dsimp only;let ep:(rS m (.row l)).ak=gs++[⟨a,b,fs++[(W,cs++l)]⟩]:=by
    show m.ak.dropLast++(m.ak.getLast?.M _).toList=_;symm
   let ec:cs.M iX++l.M iX=(cs++l).M iX:=by rw[bZ]
   rw[ec,az,mq,Mh];by_cases rX:cs.L+4=16
   .rw[af rX];apply(_,Á,U,.vk Á ?_ ?_,λz=>absurd z hc)
    .let eg:jh ⟨a,b,fs++[(W,cs++l)]⟩=⟨a,b,fs.M iB++[Flags.seenOf W ((cs++l).M iX)]⟩:=by
      ext jh;rw[bZ];rfl
     rw[J,VF,ep,bZ (f:=jh),a8,mr,eg]
    .grind
   .rw[ag rX];apply(_,Á,U,.opened gs a b fs W (cs++l) ep Á J ?_ ?_ h6 h7,λz=>absurd z hc)
    .grind
    .symm
end HD
namespace HD
open PySem PySem.Spec PyProof.Rows L2
open PySem.W (Codec)
abbrev nv(l:LN):LI:=l.M λn=>((n:Nat):Int)
def fq:hJ:=⟨0,[],0,0,0,[]⟩
def om{l:LN}{i:Nat}{y:V}(h:Èa[i]? =Α y):∃z,l[i]? =Α z/\y=V.int (z:Nat):=by
 let(z,hz,e):=tG h;rw[bU] at hz;cases q:l[i]? with
 |none=>rw[q] at hz;cases hz
 |some n=>
  rw[q] at hz;let:=aO hz;subst this;exact(n,Á,e)
def jR(l:LN):(nv l).L=l.L:=by ext nv;rw[az]
def C8(h:aX H Ãp):H l.a=Α (.ins CL l.dx (F9 l)):=h (l.a,_) (by simp[tK])
def ajI(h:aX H Ãp):H l.kl=Α (.lst (l.kinds.M λk=>V.ref k.a)):=h (l.kl,_) (by simp[tK])
def ajJ(h:aX H Ãp):aX H (Aq CK l.kinds):=λx j=>h x (by ext tK;exact aQ _ (aQ _ (aQ _ j)))
def VH{α:Type}{l:List α}(h:l.L=1):∃a,l=[a]:=List.length_eq_one_iff.mp h
def VI{α:Type}{l:List α}(h:l.L=2):∃a b,l=[a,b]:=by
 let(a,l,rfl):=ZT h;let(b,rfl):=VH (ZU h);exact(a,b,Á)
def VJ{α:Type}{l:List α}(h:l.L=3):∃a b c,l=[a,b,c]:=by
 let(a,l,rfl):=ZT h;let(b,c,rfl):=VI (ZU h);exact(a,b,c,Á)
def ajK{α:Type}{l:List α}(h:l.L=4):∃a b c d,l=[a,b,c,d]:=by
 let(a,l,rfl):=ZT h;let(b,c,d,rfl):=VJ (ZU h);exact(a,b,c,d,Á)
def lN(K:FR)(C:Addr)(fs:LS):Prop:=lD K C/\∀f∈fs,ϲ f
def rY(c:Nat):Nat:=c-c%4+4-1-c%4
inductive MY(vs:ay)(H:Hp)(Q:VK)(E':XK):Prop
 |mk (c:Nat) (_:vs=[.int (c:Nat)]) (_:Q (.int (rY c:Nat)) H)
def tQ(look classes:LI)(side:Nat):LI:=if side=1 then (List.range 16).M (λc=>classes.D (look.D (rY c) 0).toNat 0) else look.M λx=>classes.D x.toNat 0
inductive VL(K:FR)(vs:ay)(H:Hp)(Q:VK)(E':XK):Prop
 |mk (al ac:Addr) (look classes:LI) (side:Nat) (_:vs=[.ref al,.ref ac,.int (side:Nat)]) (_:ã al (iv look)) (_:iW look) (_:ã ac (iv classes)) (_:classes.L=16) (_:∀H' p,ϩ (.lst (iv (tQ look classes side)))->Q ĝ H')
def VM{D:Addr}{ys:ay}{H:Hp}{α:Type}{L:List α}{g:α->Int}(hd:H D=Α Âk)(e:ys=L.M λx=>V.int (g x)):H D=Α (.lst (iv (L.M g))):=by
 symm
def yG{l:LI}{i:Nat}(h:i<l.L):(iv l)[i]? =Α (.int (l.D i 0)):=by
 symm
section
variable{P:Pg}{w:Wd}{K:FR}{mg:MG}{base:Heap}{CK CL CS N CV:Addr}{C:Cs}
def ajL:bQ ["cell"] ["cell"] (aY KF):=cJ
def ajM(F:bx K "cell_behind" "cell_behind" KF f fd)(j:Cn mg "ROW" (.int 4)):Ì aF 1 f fd ["cell"] MY:=by
 refine F.ok ajL Â;let(c,rfl,k):=h;apply(_,aE (a0 (eP rn (eP rn (eP rl (eP rn Ú (eP Jk Ú (cj j))) (cj j)) bp) (eP Jk Ú (cj j)))),?_);apply(_,Á,_,Á,_,_,Á,Á,Å,_,_,Á,Á,_,_,Á,Á,_,_,Á,Á,_,Á,_,_,Á,Á,á,_,_,Á,Á,?_);let e:((c:Int)-(c:Int)%4+4-1-(c:Int)%4)=((rY c:Nat):Int):=by ext rY;lia
 symm
def VN{c:Nat}(h:c<16):rY c<16:=by ext rY;omega
def C9:bQ ["look","classes","side","cell","colour"] ["look","classes","side"] (aY KG):=cJ
def ajN{f:Addr}{fd:FD}(F:bx K "cells_seen" "cells_seen" KG f fd)(tR:mg "range"=Β)(cB:Cn mg "BEHIND" ŧ)(cC:Cn mg "CELLS" (.int 16))(dB:Ç 1 "cell_behind" ["cell"] MY):Ì aF 2 f fd ["look","classes","side"] (VL K):=by
 refine F.ok C9 Â;let(J,ac,look,classes,side,rfl,Z,j,hC,VO,k):=h;refine⟨_,aD (dv (cV ir è (cj cB) (bW _)) (aE (a0 (eB (own:=[("cell",3)]) (te:=bV ž Ϟ (bV ž ύ (ic MY [] E0 Âx))) Á C9.nd (Jg Ò tR (ae (cj cC) ah)) Ê
   (λ_ _ _ _ _=>dy 3 C9.nd) Õ (λ_ _ _ _ _=>cQ c8 â (cQ c8 Ú (bH dB Ĺ) Ø) Ø)))) eA)
  (aE (a0 (eB (own:=[("colour",4)]) (te:=bV ž Ϟ Ãv) rfl C9.nd Åo Ê
   (λ_ _ _ _ _=>dy 4 C9.nd) Õ (λ_ _ _ _ _=>cQ c8 â ĸ Ø)))),?_⟩
 let q:=k;delta tQ at q;refine ŷ;rw[show V.int 1=V.int ((1:Nat):Int) from rfl,my];let VQ:∀x,0<=x->x<16->qg (iv classes) x=Α (.int (classes.D x.toNat 0)):=λx h0 m=>by
  obtain⟨n,rfl⟩:∃n:Nat,x=(n:Int):=⟨x.toNat,by lia⟩;exact gc (yG Ô)
 refine bc Ï Ï
 .simp at hc;rw[af hc] at q;refine⟨16,Á,by decide,by decide,λD hD=>ET (lo:=0) (n:=16) (cK H D λi y ns=>ns=[]/\y=.int (classes.D (look.D (rY i) 0).toNat 0)) Ď Âm ý⟩
  .let hb:=VN hi;let(W,Y):=j.2 _ (getD_mem (l:=look) (i:=rY i) (by rw[j.1];exact hb));apply(Á,eJ ⟨_,Á,_,Á,_,Á,i,?_,?_⟩)
   .simp
   .exact(J,_,_,.int (look.D (rY i) 0),Á,Á,f.E.seq Z,gc (yG (by rw[j.1];exact hb)),ac,_,_,_,Á,Á,f.E.seq hC,VQ _ W Y,(f.step hD Ô ĵ ⟨Á,Á⟩ aX.nil Ä))
  .let(ys,s1,U,O,fl):=f.end;apply q H' D ⟨s1,hD,VM U (vh (by assumption) λi y x m h2=>?_)⟩;let(ns,(_,e),_):=fl i y m;grind
 .simp at hc;rw[ag hc] at q;refine⟨_,Á,J,Á,⟨_,Z⟩,λD hD=>gC (K:=K) (a:=J) (xs:=iv look) (cK H D λi y ns=>ns=[]/\∃x,look[i]? =Α x/\y=.int (classes.D x.toNat 0)) Ď (λi H' _ f=>f.E.seq Z) Č ý⟩
  .let(z,hz,rfl):=tG hi;let d7:=(bO.mp hz).1;let rX:=j.1;let(W,Y):=j.2 z (bY hz);exact(Á,eJ ⟨_,Á,_,Á,ac,_,_,_,Á,Á,f.E.seq hC,VQ z W Y,(f.step hD Ô ĵ ⟨Á,z,hz,Á⟩ aX.nil Ä)⟩)
  .let(ys,s1,U,O,fl):=f.end;rw[fb] at O;apply q H' D ⟨s1,hD,VM U (vh O λi y x m h2=>?_)⟩;let(ns,(_,z,e1,e),_):=fl i y m;symm
inductive MZ(K:FR)(C:Cs)(CK:Addr)(vs:ay)(H:Hp)(Q:VK)(E':XK):Prop
 |mk (k:aB) (ac:Addr) (classes:LI) (side:Nat) (_:vs=[.ref k.a,.ref ac,.int (side:Nat)]) (_:aX H (kJ CK k)) (_:iW k.m.look) (_:ã ac (iv classes)) (_:classes.L=16) (_:∀H' s,ai H H'->s.shape=k.m.shape->s.cells=tQ k.m.look classes side->aX H' (iA C s)->(∀x∈iA C s,H x.1=Β)->Q (.ref s.a) H')
def ajO:bQ ["kind","classes","side"] ["kind","classes","side"] (aY Lb):=cJ
def ajP(F:bx K "sighting_of" "sighting_of" Lb f fd)(T:tI K CK)(Z:ć "Sighting" C.S ["shape","cells"])(Y:Ç 2 "cells_seen" ["look","classes","side"] (VL K)):
  ba P w K mg base aF 3 f fd ["kind","classes","side"] (MZ K C CK):=by
 refine F.ok ajO Â;let(z,W,classes,side,rfl,hz,qH,hC,U,k):=h;apply(_,aE (a0 (qB Z hr (ae ś (ae (bH Y (ae ś (ae â ū))) ah)))),?_);apply(_,Á,bh (jy hz) T.c T.Ah (U9 z) ⟨_,Á,bh (jy hz) T.c T.Vb (Va z) ⟨_,Á,_,Á,z.lk,W,z.m.look,classes,side,Á,aa.of (Vl hz),qH,hC,U,λH1 pc j=>?_⟩⟩);apply wZ Á λx dx O hx jf aU e2 J=>?_;apply k O ⟨x,dx,pc,z.m.shape,_⟩ (j.1.R J) Á Á Ϫ λy hy=>?_
 .simp only[iA,aV,lj,lp] at hy;rcases hy with rfl|rfl
  .exact e2
  .exact J _ _ j.2.2
 .simp only[iA,aV,lj,lp] at hy;rcases hy with rfl|rfl
  .exact j.1.free hx
  .exact j.2.1
end
def Gx{D:Addr}{ys:ay}{H:Hp}{n:Nat}{b:Nat->Bool}(hd:H D=Α Âk)(m:ys.L=n)(h:∀(i:Nat)(y:V),ys[i]? =Α y->y=.bl (b i)):H D=Α (.lst (((List.range n).M b).M V.bl)):=by
 let e:ys=(List.range n).M (V.bl∘b):=vh (by rw[m,gq]) λi y x j h2=>by
  rw[h i y j,yx h2];rfl
 rw[hd,cZ,e]
def xh(h w:LI)(i:Nat):Bool:=decide (h.D i 0=16)||decide (h.D i 0=w.D i 0)
def xi(h w:Nat×LI):Bool:=if h.1≠3/\h.1≠w.1 then false else (List.range h.2.L).all (xh h.2 w.2)
inductive M0(C:Cs)(vs:ay)(H:Hp)(Q:VK)(E':XK):Prop
 |mk (a b:eK) (_:vs=[.ref a.a,.ref b.a]) (_:Lies H (iA C a)) (_:Lies H (iA C b)) (_:a.cells.L<=b.cells.L) (_:a.cells.L<=100) (_:∀H',ai H H'->Q (.bl (xi a.m b.m)) H')
section
variable{P:Pg}{w:Wd}{K:FR}{mg:MG}{base:Heap}{CK CL CS N CV:Addr}{C:Cs}
def M3:bQ ["half","whole","cell","seen"] ["half","whole"] (aY Lf):=cJ
def ajQ{f:Addr}{fd:FD}(F:bx K "may_be" "may_be" Lf f fd)(T:ma K C)(tA:mg "all"=Β)(tE:mg "enumerate"=Β)(Z:Cn mg "UNSEEN_SHAPE" (.int 3))(cX:Cn mg "UNSEEN_CELL" (.int 16)):
  ba P w K mg base aF 1 f fd ["half","whole"] (M0 C):=by
 refine F.ok M3 Â;let(a,b,rfl,j,J,hl,ju,k):=h;refine⟨_,aD (dv (PW.pt (pw_and (cV vZ ś (cj Z) (bW _)) (pw_and1 (cV vZ ś Äv (bW _))))) Âg eA)
  (aE (a0 (dc (wj rfl) Ò tA zm (ae (eB (own:=[("cell",2),("seen",3)]) (g:=g2 K 2 3) (te:=Jc (bV oW Ş (tC (.int 16))) (bV oW Ş (bV ž (f7 K Ϟ "cells") š))) rfl M3.nd
   (lI Ò tE Äx) Ê
   (λ_ _ _ _ _=>iM 2 3 M3.nd) Õ
   (λ_ _ _ _ _=>QX (jI ir ú (cj cX) (bW _)) (sO (jI ir ú (cQ c8 ŗ è Ø) (bW _))))) ah)))),?_⟩
 let em:xi a.m b.m=if a.shape≠3/\a.shape≠b.shape then false else (List.range a.cells.L).all (xh a.cells b.cells):=rfl;rw[em] at k;refine and_val (!decide (a.shape=3)) (!decide (a.shape=b.shape)) (λK h=>⟨_,Á,bh j.sa T.cS T.Ah (LZ a) ĺ⟩) (λ_ K h=>⟨_,Á,bh j.sa T.cS T.Ah (LZ a) ⟨_,Á,bh J.sa T.cS T.Ah (LZ b) ĺ⟩⟩) (bc Ï Ï)
 .rw[show V.int 3=V.int ((3:Nat):Int) from rfl,my];exact h
 .rw[my];exact h
 .rw[af Å] at k;exact k H ϊ
 .rw[ag (by grind)] at k;let W:=j.sl;refine⟨_,Á,bh j.sa T.cS T.FV (FU a) ⟨a.l,_,Á,aa.of W,λD hD=>l7 (K:=K) (a:=a.l) (xs:=iv a.cells) (cK H D λi y ns=>ns=[]/\y=.bl (xh a.cells b.cells i)) Ď (λi H' _ f=>aa.of (f.E _ _ W)) œ ý⟩⟩
  .let(z,hz,rfl):=tG hi;let d7:=(bO.mp hz).1;let O:ai H' (Ϩ (.tup [.int (i:Nat),.int z])):=aN hT;let Y:=f.E.R O;refine ß;apply Ta (decide (z=16)) (decide (z=b.cells.D i 0)) (λK h=>⟨_,Á,Á,?_⟩) (λ_ K h=>⟨_,Á,_,Á,bh (Y _ _ J.sa) T.cS T.FV (FU b) ⟨_,Á,b.l,_,_,.int (b.cells.D i 0),Á,Á,aa.of (Y _ _ J.sl),gc (yG Ô),Á,?_⟩⟩) ?_
   .symm
   .symm
   .refine f.step hD Ô O Ŷ aX.nil Ä;ext xh;symm
  .let(ys,O,fU,U,fl):=f.end;rw[fb] at U;apply(D,(List.range a.cells.L).M (xh a.cells b.cells),Á,aa.of (Gx fU U λi y e=>?_),?_)
   .let(ns,(_,e),_):=fl i y e;omega
   .symm
end
structure c6 where
 a:Addr
 ns:LN
structure ck where
 a:Addr
 ls:List c6
def lsN(x:c6):jw:=[(x.a,.lst (iv (nv x.ns)))]
def eV(y:ck):jw:=(y.a,.lst (y.ls.M λx=>V.ref x.a))::y.ls.flatMap lsN
def ck.m(y:ck):bq:=y.ls.M c6.ns
def ji(H:Hp)(ns:jw):Prop:=∀x∈ns,H x.1=Β
def Da(h:aX H (lsN x)):H x.a=Α ώ:=h (x.a,_) (by simp[lsN])
def jS(h:aX H Æz):H y.a=Α (.lst (y.ls.M λx=>V.ref x.a)):=h (y.a,_) (by simp[eV])
def m6(h:aX H Æz)(j:x∈y.ls):H x.a=Α ώ:=Da λz hz=>h z (by ext eV;exact aQ _ (lr.mpr ⟨x,j,hz⟩))
def VR{H:Hp}{a:Addr}{ls:List c6}(h:H a=Α (.lst (ls.M λx=>V.ref x.a)))(h2:∀x∈ls,aX H (lsN x)):aX H (eV ⟨a,ls⟩):=λz hz=>by
 rcases aV.mp hz with rfl|hz
 .exact h
 .let(x,j,hz):=lr.mp hz;exact h2 x j z hz
def Dc{H:Hp}{a:Addr}{ls:List c6}(h:H a=Β)(h2:∀x∈ls,ji H (lsN x)):ji H (eV ⟨a,ls⟩):=λz hz=>by
 rcases aV.mp hz with rfl|hz
 .exact h
 .let(x,j,hz):=lr.mp hz;exact h2 x j z hz
theorem iC{α:Type}{a:α->Addr}{l:List α}{i:Nat}{y:V}(h:(l.M λk=>V.ref (a k))[i]? =Α y):∃z,l[i]? =Α z/\y=V.ref (a z):=by
 rw[bU] at h;cases e:l[i]? with
 |none=>rw[e] at h;cases h
 |some z=>rw[e] at h;exact(z,Á,(aO h).symm)
def M4{α β:Type}{bs:List α}{m:α->β}{l:List β}(j:bs.L=l.L)(h:∀(i:Nat)(b:α)(x:β),bs[i]? =Α b->l[i]? =Α x->m b=x):bs.M m=l:=by
 apply xI;grind
def Dd(i:Nat):(List.range (i+1)).J p=(List.range i).J p++(if p i=true then [i] else []):=by
 rw[IF,El];grind
def ajR(i:Nat):((List.range i).J p).L<=i:=by
 grind
def mf(H1:Hp)(D:Addr)(p:Nat->Bool)(i:Nat)(H:Hp):Prop:=ai H1 H/\H D=Α (.lst (iv (nv ((List.range i).J p))))
def mf.zero{H1:Hp}{D:Addr}{p:Nat->Bool}(j:H1 D=Β):mf H1 D p 0 ď:=⟨aN j,aq⟩
def mf.yes(j:H1 D=Β)(hi:i<1000000)(f:mf H1 D p i H)(s:ai H H4)(h:p i=true):j8 D (mf H1 D p (i+1)) (V.int (i:Nat)) H4:=by
 apply(_,s _ _ f.2,?_,fu (f.1.R s) j,?_)
 .rw[fb,jR];let:=ajR (p:=p) i;exact g9 Ô
 .rw[aq,Dd,af h];simp
def mf.no(f:mf H1 D p i H)(s:ai H H4)(h:¬p i=true):mf H1 D p (i+1) H4:=by
 apply(f.1.R s,?_);rw[Dd,ag h,jG];exact s _ _ f.2
def jz(H:Hp)(D:Addr)(g:Nat->LN):Nat->Hp->Prop:=cK H D λi y ns=>∃b:c6,(b.ns=g i/\ji H (lsN b))/\y=.ref b.a/\ns=lsN b
def jz.step{H H' m:Hp}{D r:Addr}{g:Nat->LN}{i:Nat}(z:H D=Β)(hi:i<1000000)(f:jz H D g i H')(s:ai H' m)(hr:H' r=Β)(e:m r=Α (.lst (iv (nv (g i))))):
  j8 D (jz H D g (i+1)) (V.ref r) m:=
 cK.step z hi f s (ns:=lsN ⟨r,g i⟩) ⟨⟨r,g i⟩,⟨rfl,λx j=>by
  simp only[lsN,aV,lj,lp] at j;subst j;exact f.E.free hr⟩,rfl,rfl⟩ (λx j=>by
  simp only[lsN,aV,lj,lp] at j;subst j;exact e) (λx j e=>by
  simp only[lsN,aV,lj,lp] at j;subst j;exact f.has (by rw[<-e];exact hr))
def jz.end{H H':Hp}{D:Addr}{g:Nat->LN}{n:Nat}(W:H D=Β)(f:jz H D g n H'):∃y:ck,y.a=D/\ai H H'/\y.m=(List.range n).M g/\aX H' Æz/\ji H Æz:=by
 let(ys,s1,O,z,fl):=cK.end f;let(bs,J,F,Z):=yA (v:=λb:c6=>V.ref b.a) (nd:=lsN) (R:=λi b=>b.ns=g i/\ji H (lsN b)) fl;subst J;rw[az] at z;apply(⟨D,bs⟩,Á,s1,?_,VR O Z,Dc W λb Y=>?_)
 .apply M4 (by rw[az,gq];exact z) λi b x U h2=>?_;rw[bU] at h2;cases e:Èx[i]? with
  |none=>rw[e] at h2;cases h2
  |some j=>
   rw[e] at h2;cases h2;rw[yx e];exact(F i b U).1
 .let(i,hi,e):=qV Y;exact(F i b (by rw[c7 hi,e])).2
theorem xj{α β:Type}{l:List α}{g:α->β}{d:α}:(List.range l.L).M (λi=>g (l.D i d))=l.M g:=by
 apply M4 (by rw[gq,az]) λi b x j h2=>?_;rw[bU] at h2;cases e:l[i]? with
 |none=>rw[e] at h2;cases h2
 |some z=>
  rw[e] at h2;cases h2;rw[yx j,getD_at e]
def tU(ls:List (Nat×LI))(h:Nat×LI):LN:=(List.range ls.L).J λi=>xi h (ls.D i (0,[]))
def yH(ls:List (Nat×LI))(g:iP):bq:=g.flags.M (tU ls)
def AB(C:Cs)(H:Hp)(p:Addr)(ls:List eK):Prop:=H p=Α (.lst (ls.M λl=>V.ref l.a))/\(∀l∈ls,Lies H (iA C l))/\∀l∈ls,l.cells.L=16
def AB.same{C:Cs}{H H':Hp}{p:Addr}{ls:List eK}(h:AB C H p ls)(s:ai H H'):AB C H' p ls:=⟨s _ _ h.1,λl j=>(h.2.1 l j).E s,h.2.2⟩
inductive M5(C:Cs)(vs:ay)(H:Hp)(Q:VK)(E':XK):Prop
 |mk (p:Addr) (ls:List eK) (h:eK) (_:vs=[.ref p,.ref h.a]) (_:AB C H p ls) (_:ls.L<=100000) (_:Lies H (iA C h)) (_:h.cells.L=16) (_:∀H' r,qx H H' r (.lst (iv (nv (tU Åm h.m))))->Q Âj H')
inductive M6(C:Cs)(vs:ay)(H:Hp)(Q:VK)(E':XK):Prop
 |mk (p:Addr) (ls:List eK) (g:cz) (_:vs=[.ref p,.ref g.a]) (_:AB C H p ls) (_:ls.L<=100000) (_:Lies H Æw) (_:g.flags.L<=100) (_:(∀s∈g.flags,s.cells.L=16)) (_:∀H' y,ai H H'->ck.m y=yH Åm g.m->aX H' Æz->ji H Æz->Q Ày H')
section
variable{P:Pg}{w:Wd}{K:FR}{mg:MG}{base:Heap}{CK CL CS N CV:Addr}{C:Cs}
def M7:bQ ["looks","half","number","whole"] ["looks","half"] (aY Le):=cJ
def ajS{f:Addr}{fd:FD}(F:bx K "kinds_that_look_so" "kinds_that_look_so" Le f fd)(tE:mg "enumerate"=Β)(Z:Ç 1 "may_be" ["half","whole"] (M0 C)):Ì aF 2 f fd ["looks","half"] (M5 C):=by
 refine F.ok M7 Â;let(p,ls,z,rfl,j,hl,hz,J,k):=h;refine⟨_,aE (a0 (eB (own:=[("number",2),("whole",3)]) (g:=g2 K 2 3) (tt:=tB (ic (M0 C) [] E0 (bo Ϟ Âx))) (te:=aA 2) Á M7.nd
   (Âs) Ê
   (λ_ _ _ _ _=>iM 2 3 M7.nd)
   (λ_ _ _ _ _=>qj (jH (bH Z (ae â Ĺ)))) Äe)),?_⟩
 refine⟨_,Á,p,_,Á,aa.of j.1,λD U=>l7 (K:=K) (a:=p) (xs:=ls.M λl=>V.ref l.a) (mf H D λi=>xi z.m ((ls.M eK.m).D i (0,[]))) (mf.zero U) (λi H' _ f=>aa.of (f.1 _ _ j.1)) œ ý⟩
 .let(l,O,rfl):=iC hi;let W:=bY O;let d7:=(bO.mp O).1;let s1:ai H' (Ϩ (.tup [.int (i:Nat),.ref l.a])):=aN hT;let Y:=f.1.R s1;refine ñ;apply(_,Á,_,Á,z,l,Á,hz.E Y,(j.2.1 l W).E Y,by rw[J,j.2.2 l W];exact bw _,by simp_all,λH3 s3=>⟨_,rfl,?_⟩);let e:xi z.m ((ls.M eK.m).D i (0,[]))=xi z.m l.m:=by rw[getD_map O]
  refine bc Ï Ï
  .exact(_,Á,f.yes U Ô Åk (e.R hc))
  .exact f.no Åk Å
 .let e:=f.2;rw[az] at e;apply k H' D ⟨f.1,U,?_⟩;ext tU;symm
def M8:bQ ["looks","glimpse","flag"] ["looks","glimpse"] (aY Ld):=cJ
def ajU{f:Addr}{fd:FD}(F:bx K "kinds_along" "kinds_along" Ld f fd)(T:ma K C)(Y:Ç 2 "kinds_that_look_so" ["looks","half"] (M5 C)):Ì aF 3 f fd ["looks","glimpse"] (M6 C):=by
 refine F.ok M8 Â;let(p,ls,g,rfl,hp,hl,J,oo,j,k):=h;let U:=J.fl;refine⟨_,aE (a0 (eB (own:=[("flag",2)]) (te:=ic (M5 C) [] E0 (bo ύ (bo š dQ))) Á M8.nd (eW Äv) Ê
   (λ_ _ _ _ _=>dy 2 M8.nd) Õ (λ_ _ _ _ _=>bH Y (ae Ú ū)))),?_⟩
 refine⟨_,Á,bh J.ga T.cG T.wU (wR g) ⟨g.l,Á,⟨_,aa.of U⟩,λD hD=>gC (K:=K) (a:=g.l) (xs:=g.flags.M λs=>V.ref s.a) (jz H D λi=>tU Åm ((g.flags.M eK.m).D i (0,[]))) Ď (λi H' _ f=>aa.of (f.E _ _ U)) Č ý⟩⟩
 .let(sg,z,rfl):=iC hi;let W:=bY z;let d7:=(bO.mp z).1;exact(Á,eJ ⟨_,Á,_,Á,p,ls,sg,Á,hp.E f.E,hl,(J.Ag W).E f.E,j sg W,λH3 r O=>(jz.step hD Ô f O.1 O.2.1 (by rw[getD_map z];exact O.2.2))⟩)
 .let(y,rfl,s1,Z,l1,fr):=jz.end hD f;apply k H' y s1 ?_ l1 fr;rw[Z,az];let:=xj (l:=g.flags.M eK.m) (g:=tU Åm) (d:=(0,[]));rw[az] at this;exact this
end
def oq{β:Type}(nd:β->jw)(ad:β->Addr)(R:Nat->β->Prop)(H:Hp)(D:Addr):Nat->Hp->Prop:=cK H D λi y ns=>∃b:β,(R i b/\ji H (nd b))/\y=.ref (ad b)/\ns=nd b
def oq.step{β:Type}{nd:β->jw}{ad:β->Addr}{R:Nat->β->Prop}{H H' j:Hp}{D:Addr}{i:Nat}(z:H D=Β)(hi:i<1000000)(f:oq nd ad R H D i H')(s:ai H' j)(b:β)(r:R i b)(l:aX j (nd b))(fr:ji H' (nd b)):
  j8 D (oq nd ad R H D (i+1)) (V.ref (ad b)) j:=
 cK.step z hi f s (ns:=nd b) ⟨b,⟨r,λx m=>f.E.free (fr x m)⟩,rfl,rfl⟩ l (λx m e=>f.has (by rw[<-e];exact fr x m))
def oq.end{β:Type}{nd:β->jw}{ad:β->Addr}{R:Nat->β->Prop}{H H':Hp}{D:Addr}{n:Nat}(f:oq nd ad R H D n H'):∃bs:List β,bs.L=n/\ai H H'/\H' D=Α (.lst (bs.M λb=>V.ref (ad b)))/\(∀(i:Nat)(b:β),bs[i]? =Α b->R i b)/\(∀b∈bs,aX H' (nd b))/\∀b∈bs,ji H (nd b):=by
 let(ys,U,F,j,fl):=cK.end f;let(bs,z,m,O):=yA (v:=λb:β=>V.ref (ad b)) (nd:=nd) (R:=λi b=>R i b/\ji H (nd b)) fl;subst z;rw[az] at j;apply(bs,j,U,F,λi b e=>(m i b e).1,O,λb J=>?_);let(i,hi,e):=qV J;exact(m i b (by rw[c7 hi,e])).2
def ji.back(h:ji H' ns)(s:ai H H'):ji H ns:=λx j=>s.free (h x j)
def Gy{α β γ:Type}{bs:List β}{l:List α}{m:β->γ}{g:α->γ}(z:bs.L=l.L)(h:∀(i:Nat)(b:β)(x:α),bs[i]? =Α b->l[i]? =Α x->m b=g x):bs.M m=l.M g:=
 M4 (by rw[az];exact z) λi b y j h2=>by
  rw[bU] at h2;cases e:l[i]? with
  |none=>rw[e] at h2;cases h2
  |some x=>
   rw[e] at h2;cases h2;exact h i b x j e
structure vm where
 a:Addr
 dx:Addr
 gl:Addr
 side:Nat
 gs:List ck
def Gz(v:vm):List (Str×V):=[("side",.int (v.side:Nat)),("glimpses",.ref v.gl)]
def qI(CV:Addr)(v:vm):jw:=(v.a,.ins CV v.dx (Gz v))::(v.gl,.lst (v.gs.M λg=>V.ref g.a))::v.gs.flatMap eV
def ajW(v:vm):(Gz v).Q ("side":Str)=Α (.int (v.side:Nat)):=ij
def ajX(v:vm):(Gz v).Q ("glimpses":Str)=Α (.ref v.gl):=(fw È).R ij
def VS(h:aX H Åz):H v.a=Α (.ins CV v.dx (Gz v)):=h (v.a,_) (by simp[qI])
def ajY(h:aX H Åz):H v.gl=Α (.lst (v.gs.M λg=>V.ref g.a)):=h (v.gl,_) (by simp[qI])
def ajZ(h:aX H Åz)(j:g∈v.gs):aX H (eV g):=λx m=>h x (by
 ext qI;exact aQ _ (aQ _ (lr.mpr ⟨g,j,m⟩)))
def pA(classes:LI)(side:Nat)(k:hJ):Nat×LI:=(k.shape,tQ k.look classes side)
def qJ(ms:aG)(classes:LI)(side:Nat)(gs:List iP):List bq:=gs.M (yH (ms.M (pA classes side)))
structure xk(C:Cs)(H:Hp)(p:eS):Prop where
 l:Lies H Ám
 yI:p.classes.L=16
 dh:p.ak.L<=100
 flags:∀g∈p.ak,g.flags.L<=100
 cells:∀g∈p.ak,∀s∈g.flags,s.cells.L=16
def xk.same{C:Cs}{H H':Hp}{p:eS}(h:xk C H p)(s:ai H H'):xk C H' p:=⟨h.l.E s,h.yI,h.dh,h.flags,h.cells⟩
structure pB(CK:Addr)(H:Hp)(pk:Addr)(ks:List aB):Prop where
 a:H pk=Α (.lst (ks.M λk=>V.ref k.a))
 l:aX H (Aq CK ks)
 dh:ks.L<=100000
 look:∀k∈ks,iW k.m.look
def pB.same{CK:Addr}{H H':Hp}{pk:Addr}{ks:List aB}(h:Ŵ ks)(s:ai H H'):pB CK H' pk ks:=⟨s _ _ h.a,h.l.E s,h.dh,h.look⟩
inductive M9(C:Cs)(CK CV:Addr)(vs:ay)(H:Hp)(Q:VK)(E':XK):Prop
 |mk (pk:Addr) (ks:List aB) (p:eS) (side:Nat) (_:vs=[.ref pk,.ref p.a,.int (side:Nat)]) (_:Ŵ ks) (_:xk C H p) (_:∀H' v,ai H H'->v.side=side->v.gs.M ck.m=qJ Í p.classes side ó->aX H' Åz->ji H Åz->Q (.ref v.a) H')
section
variable{P:Pg}{w:Wd}{K:FR}{mg:MG}{base:Heap}{CK CL CS N CV:Addr}{C:Cs}
def AC:bQ ["kinds","plate","side","looks","kind","glimpse"] ["kinds","plate","side"] (aY Lc):=cJ
def aj0{look classes:LI}{side:Nat}(h:iW look):(tQ look classes side).L=16:=by
 ext tQ;split
 .rfl
 .rw[az,h.1]
def aj1{f:Addr}{fd:FD}(F:bx K "view_of" "view_of" Lc f fd)(T:ma K C)(dV:ć "View" CV ["side","glimpses"])(dS:Ç 3 "sighting_of" ["kind","classes","side"] (MZ K C CK))(dA:Ç 3 "kinds_along" ["looks","glimpse"] (M6 C)):
  ba P w K mg base aF 4 f fd ["kinds","plate","side"] (M9 C CK CV):=by
 refine F.ok AC Â;let(pk,ks,p,side,rfl,hk,U,k):=h;refine⟨_,aD (cy 3 AC.nd (eB (own:=[("kind",4)]) (te:=ic (MZ K C CK) [] E0 (bo Ãv (bo (f7 K Ϟ "classes") (bo š dQ)))) Á AC.nd Åo Ê
   (λ_ _ _ _ _=>dy 4 AC.nd) Õ (λ_ _ _ _ _=>bH dS (ae ĸ (ae ŗ ū)))))
  (aE (a0 (qB dV hr (ae è (ae (eB (own:=[("glimpse",5)]) (te:=ic (M6 C) [] E0 (bo Ş Èu)) rfl AC.nd (eW ŗ) Ê
   (λ_ _ _ _ _=>dy 5 AC.nd) Õ (λ_ _ _ _ _=>bH dA (ae ú Ŭ))) ah))))),?_⟩
 refine⟨_,Á,pk,Á,⟨_,aa.of hk.a⟩,λD hD=>gC (K:=K) (a:=pk) (xs:=ks.M λk=>V.ref k.a) (oq (iA C) eK.a (λi b=>∀k,ks[i]? =Α k->b.m=pA p.classes side k.m/\b.cells.L=16) H D) Ď (λi H' _ f=>aa.of (f.E _ _ hk.a)) Č ý⟩
 .let(z,j,rfl):=iC hi;let O:=bY j;let d7:=(bO.mp j).1;let hf:=hk.dh;apply(Á,eJ ⟨_,Á,_,Á,bh (f.E _ _ U.l.pl) T.cP T.FW (LY p) ⟨_,Á,z,p.cl,p.classes,side,Á,(og hk.l O).E f.E,hk.look z O,aa.of (f.E _ _ U.l.cl),U.yI,λY sg s3 e1 e2 ls fr=>?_⟩⟩);apply oq.step hD Ô f s3 sg (λk' je=>?_) ls fr;rw[j] at je;cases je;apply(?_,by rw[e2];exact aj0 (hk.look z O));ext eK.m pA;symm
 .let(bs,kT,W,fU,r1,l1,fr1):=oq.end f;rw[az] at kT;let Z:AB C H' D bs:=⟨fU,λb J=>l1 b J,λb J=>by
   let(i,hi,e):=qV J;exact(r1 i b (by grind) ks[i] (c7 á)).2⟩
  let em:bs.M eK.m=(ks.M aB.m).M (pA p.classes side):=by
   rw[cZ];exact Gy kT λi b x j h2=>(r1 i b j x h2).1
  let oO:=U.E W;let hf:=hk.dh;apply(_,Á,_,Á,bh oO.l.pl T.cP T.mX Åv ⟨p.gl,Á,⟨_,aa.of oO.l.gl⟩,λD2 cg=>gC (K:=K) (a:=p.gl) (xs:=p.ak.M λg=>V.ref g.a) (oq eV ck.a (λi b=>∀g,p.ak[i]? =Α g->b.m=yH (bs.M eK.m) g.m) H' D2) Ãu (λi H2 _ f=>aa.of (f.E _ _ oO.l.gl)) (λi y H2 hi f=>?_) Æl⟩)
  .let(g,j,rfl):=iC hi;let O:=bY j;let d7:=(bO.mp j).1;let Na:=U.dh;apply(Á,eJ ⟨_,Á,_,Á,D,bs,g,Á,Z.E f.E,by simp_all,(oO.l.sub O).E f.E,U.flags g O,U.cells g O,λY y s3 e1 ls fr=>?_⟩);apply oq.step cg Ô f s3 y (λk' je=>?_) ls fr;symm
  .let(gs,oo,s2,fY,r2,l2,fr2):=oq.end f;rw[az] at oo;apply wZ Á λx dx Y hx jf aU e3 s3=>?_;apply k Y ⟨x,dx,D2,side,gs⟩ (W.R Ĳ) Á ?_ Ϫ λy hy=>?_
   .ext qJ;rw[cZ,<-em];exact Gy oo λi b x j h2=>r2 i b j x h2
   .simp only[qI,aV] at hy;rcases hy with rfl|rfl|hy
    .exact e3
    .exact s3 _ _ fY
    .let(b,J,hy):=lr.mp hy;exact s3 _ _ (l2 b J y hy)
   .simp only[qI,aV] at hy;rcases hy with rfl|rfl|hy
    .exact(W.R s2).free hx
    .exact W.free cg
    .let(b,J,hy):=lr.mp hy;exact W.free (fr2 b J y hy)
end
def in_nums(x:Nat)(l:LN):we (.int (x:Nat)) Èa=l.Y x:=by
 rw[LR];grind
def GC(h:i<l.L):Èa[i]? =Α (.int ((l.D i 0:Nat):Int)):=by
 symm
def iI(y:ck):y.m.L=y.ls.L:=by ext ck.m;rw[az]
def De{y:ck}{i:Nat}{x:c6}(h:y.ls[i]? =Α x):y.m.D i []=x.ns:=by ext ck.m;rw[getD_map h]
def yJ(U:Nat)(h:LN)(seen:bq):Bool:=(List.range seen.L).all λi=>(seen.D i []).Y (h.D (U+i) 0)
inductive Nb(vs:ay)(H:Hp)(Q:VK)(E':XK):Prop
 |mk (uz:Nat) (h:c6) (y:ck) (_:vs=[.int (uz:Nat),.ref h.a,.ref y.a]) (_:aX H (lsN h)) (_:aX H Æz) (_:uz+y.ls.L<=h.ns.L) (_:y.ls.L<=100) (_:∀H',ai H H'->Q (.bl (yJ uz h.ns y.m)) H')
section
variable{P:Pg}{w:Wd}{K:FR}{mg:MG}{base:Heap}{CK CL CS N CV:Addr}{C:Cs}
def Nc:bQ ["place","hoist","kinds_seen","number","kinds"] ["place","hoist","kinds_seen"] (aY Li):=cJ
def aj4{f:Addr}{fd:FD}(F:bx K "fits_at" "fits_at" Li f fd)(tA:mg "all"=Β)(tE:mg "enumerate"=Β):Ì aF 1 f fd ["place","hoist","kinds_seen"] Nb:=by
 refine F.ok Nc Â;let(U,h,y,rfl,hh,O,i5,zL,k):=h;refine⟨_,aE (a0 (dc (wj Á) Ò tA zm (ae (eB (own:=[("number",3),("kinds",4)]) (g:=g2 K 3 4) (te:=bV (EO K false) (bV ž Ϟ (bV abN ύ Ş)) Ãv) Á Nc.nd
   (lI Ò tE ū) Ê
   (λ_ _ _ _ _=>iM 3 4 Nc.nd) Õ
   (λ_ _ _ _ _=>jI Jx (cQ c8 â (eP rl Ú ú) Ø) ĸ (by with_unfolding_all rfl))) ah))),?_⟩
 refine⟨_,Á,y.a,_,Á,aa.of (jS O),λD hD=>l7 (K:=K) (a:=y.a) (xs:=y.ls.M λx=>V.ref x.a) (cK H D λi v ns=>ns=[]/\v=.bl ((y.m.D i []).Y (h.ns.D (U+i) 0))) Ď (λi H' _ f=>aa.of (f.E _ _ (jS O))) œ ý⟩
 .let(l,J,rfl):=iC hi;let hm:=bY J;let d7:=(bO.mp J).1;let z:ai H' (Ϩ (.tup [.int (i:Nat),.ref l.a])):=aN hT;let Y:=f.E.R z;refine ß;apply(_,Á,_,Á,_,Á,_,_,Á,Á,h.a,_,_,.int ((h.ns.D (U+i) 0:Nat):Int),Á,Á,aa.of (Y _ _ (Da hh)),gc (j:=U+i) (GC Ô),_,Á,l.a,_,Á,.inl (aa.of (Y _ _ (m6 O hm))),Á,CI _,?_);refine f.step hD Ô z Ŷ aX.nil Ä;rw[De J,<-in_nums];rfl
 .let(ys,z,Z,W,fl):=f.end;rw[az] at W;apply(D,(List.range y.ls.L).M λi=>(y.m.D i []).Y (h.ns.D (U+i) 0),Á,aa.of (Gx Z W λi v e=>?_),?_)
  .let(ns,(_,e),_):=fl i v e;omega
  .let q:=k H' z;delta yJ at q;rw[iI] at q;symm
def ou(below:Bool)(u:Nat):Nat:=if below=true then 0 else u
def tV(above:Bool)(u:Nat):Nat:=if above=true then u else 0
def Nf(a b:Bool)(u:Nat)(h:LN)(seen:bq):Bool:=(List.range (tV a u+1-ou b u)).any λi=>yJ (ou b u+i) h seen
def vo(h:LN)(g:iP)(seen:bq):Bool:=Nf g.above g.below (h.L-g.flags.L) h seen
inductive Ng(C:Cs)(vs:ay)(H:Hp)(Q:VK)(E':XK):Prop
 |mk (h:c6) (g:cz) (y:ck) (_:vs=[.ref h.a,.ref g.a,.ref y.a]) (_:aX H (lsN h)) (_:Lies H Æw) (_:aX H Æz) (_:y.ls.L=g.flags.L) (_:g.flags.L<=h.ns.L) (_:h.ns.L<=100) (_:∀H',ai H H'->Q (.bl (vo h.ns g.m y.m)) H')
def AD:bQ ["hoist","glimpse","kinds_seen","unseen","first","last","place"] ["hoist","glimpse","kinds_seen"] (aY Lh):=cJ
def aj5(F:bx K "hoist_fits" "hoist_fits" Lh f fd)(T:ma K C)(tL:mg "len"=Β)(tA:mg "any"=Β)(tR:mg "range"=Β)(Y:Ç 1 "fits_at" ["place","hoist","kinds_seen"] Nb):Ì aF 2 f fd ["hoist","glimpse","kinds_seen"] (Ng C):=by
 refine F.ok AD Â;let(h,g,y,rfl,O,J,hy,sX,i5,zL,k):=h;refine⟨_,aD (cy 3 AD.nd (eP rn Ċ (dc gf Ò tL PySem.boot_len (ae Äv ah))))
  (aD (cy 4 AD.nd (sP (jH ŗ) bp ú))
  (aD (cy 5 AD.nd (sP (jH ŗ) ú bp))
  (aE (a0 (dc (RS rfl) Ò tA boot_any (ae (eB (own:=[("place",6)]) (te:=ic Nb [] E0 (bo (aA 6) (bo ύ (bo š dQ)))) rfl AD.nd (abl Ò tR (ae ĸ (ae (eP rl Äl bp) ah))) Ê
   (λ_ _ _ _ _=>dy 6 AD.nd) Õ (λ_ _ _ _ _=>bH Y (ae Ãr (ae Ú ū)))) ah)))))),?_⟩
 let eu:((h.ns.L:Nat):Int)-((g.flags.L:Nat):Int)=((h.ns.L-g.flags.L:Nat):Int):=by grind
 apply(_,Á,h.a,_,Á,.inl (aa.of (Da O)),_,Á,bh J.ga T.cG T.wU (wR g) ⟨g.l,_,Á,.inl (aa.of J.fl),_,_,Á,Á,?_⟩);dsimp only;rw[fb,jR,az,eu];let k:=k;delta vo at k;rw[show g.m.flags.L=g.flags.L by ext cz.m;rw[az],show g.m.above=g.above from rfl,show g.m.below=g.below from rfl] at k;generalize hu:h.ns.L-g.flags.L=u at k;delta Nf at k;apply Fk g.below (.int ((ou g.below u:Nat):Int)) (λK q=>⟨_,Á,bh J.ga T.cG T.UG (UE g) ⟨_,Á,q⟩⟩) Ϲ (λe K q=>Ĝ) ?_
 .rw[e] at q;exact q
 .rw[e] at q;exact q
 .dsimp only;apply Tc (Tb g.above (.int ((tV g.above u:Nat):Int)) (λK q=>⟨_,Á,bh J.ga T.cG T.UF (UD g) ⟨_,Á,q⟩⟩) (λe K q=>Ĝ) Ϲ ?_)
  .rw[e] at q;exact q
  .rw[e] at q;exact q
  .let U:ou g.below u<=u:=by ext ou;split <;> simp_all
   let W:tV g.above u<=u:=by ext tV;split <;> simp_all
   generalize ou g.below u=j at U k;generalize tV g.above u=z at W k;apply(_,Á,_,Á,_,_,Á,Á,(j:Int),((z:Int)+1),Á,⟨by simp_all,by lia,by lia,by lia⟩,λD hD=>?_);rw[show(((z:Nat):Int)+1-(j:Nat)).toNat=z+1-j by simp_all];refine ET (lo:=(j:Int)) (n:=z+1-j) (cK H D λi v ns=>ns=[]/\v=.bl (yJ (j+i) h.ns y.m)) Ď Âm ý
   .apply(Á,eJ ⟨_,Á,_,Á,_,Á,j+i,h,y,?_,aX.E O f.E,aX.E hy f.E,by omega,by lia,λH3 s3=>?_⟩)
    .rfl
    .exact f.step hD á s3 ⟨Á,Á⟩ aX.nil Ä
   .let(ys,s1,fU,Z,fl):=f.end;apply(D,(List.range (z+1-j)).M λi=>yJ (j+i) h.ns y.m,Á,aa.of (Gx fU Z λi v e=>?_),?_)
    .let(ns,(_,e),_):=fl i v e;omega
    .symm
def m7:bq->List iP->List bq->Bool
 |h::hs,g::gs,s::ss=>vo h g s&&m7 hs gs ss
 |_,_,_=>true
inductive Nh(C:Cs)(CV:Addr)(vs:ay)(H:Hp)(Q:VK)(E':XK):Prop
 |mk (y:ck) (p:eS) (v:vm) (_:vs=[.ref y.a,.ref p.a,.ref v.a]) (_:aX H Æz) (_:xk C H p) (_:aX H Åz) (_:y.ls.L=p.ak.L) (_:v.gs.L=p.ak.L) (_:(∀(i:Nat)(h:c6)(g:cz)(s:ck),y.ls[i]? =Α h->p.ak[i]? =Α g->v.gs[i]? =Α s->s.ls.L=g.flags.L/\g.flags.L<=h.ns.L/\h.ns.L<=100)) (_:∀H',ai H H'->Q (.bl (m7 y.m ó Ϸ)) H')
theorem aj6(hs:bq):∀(gs:List iP)(ss:List bq),hs.L=gs.L->ss.L=gs.L->m7 hs gs ss=(List.range hs.L).all λi=>vo (hs.D i []) (gs.D i ⟨false,false,[]⟩) (ss.D i []):=by
 induction hs with
 |nil=>
  intro gs ss j h2;cases gs with
  |nil=>cases ss with
   |nil=>rfl
   |cons _ _=>cases h2
  |cons _ _=>cases j
 |cons h hs m=>
  intro gs ss j h2;cases gs with
  |nil=>cases j
  |cons g gs=>cases ss with
   |nil=>cases h2
   |cons s ss=>
    let m:=m gs ss (À j) (À h2);ext m7;rw[m,df,Ed,sC,sD];rfl
def Ni:bQ ["hoists","plate","view","j","hoist"] ["hoists","plate","view"] (aY Lg):=cJ
def aj7{f:Addr}{fd:FD}(F:bx K "fits" "fits" Lg f fd)(T:ma K C)(TV:lN K CV ["side","glimpses"])(tA:mg "all"=Β)(tE:mg "enumerate"=Β)(dF:Ç 2 "hoist_fits" ["hoist","glimpse","kinds_seen"] (Ng C)):Ì aF 3 f fd ["hoists","plate","view"] (Nh C CV):=by
 refine F.ok Ni Â;let(y,p,v,rfl,Z,U,Y,eQ,ju,ax,k):=h;refine⟨_,aE (a0 (dc (wj Á) Ò tA zm (ae (eB (own:=[("j",3),("hoist",4)]) (g:=g2 K 3 4) (te:=ic (Ng C) [] E0 (bo Ãv (bo (bV ž (f7 K Ϟ "glimpses") Ş) (bo (bV ž (f7 K š "glimpses") Ş) dQ)))) Á Ni.nd
   (Âs) Ê
   (λ_ _ _ _ _=>iM 3 4 Ni.nd) Õ
   (λ_ _ _ _ _=>bH dF (ae ĸ (ae (cQ c8 ŗ ú Ø) (ae (cQ c8 (bg è rfl) ú Ø) ah))))) ah))),?_⟩
 let zL:=U.dh;rw[aj6 _ _ _ (by rw[iI,az];exact eQ) Å,iI] at k;refine⟨_,Á,y.a,_,Á,aa.of (jS Z),λD hD=>l7 (K:=K) (a:=y.a) (xs:=y.ls.M λx=>V.ref x.a) (cK H D λi u ns=>ns=[]/\u=.bl (vo Ço ((p.ak.M cz.m).D i ⟨false,false,[]⟩) ((v.gs.M ck.m).D i []))) Ď (λi H' _ f=>aa.of (f.E _ _ (jS Z))) œ ý⟩
 .let(l,J,rfl):=iC hi;let hm:=bY J;let d7:=(bO.mp J).1;let s1:ai H' (Ϩ (.tup [.int (i:Nat),.ref l.a])):=aN hT;let j:=f.E.R s1;obtain⟨g,O⟩:∃g,p.ak[i]? =Α g:=⟨_,c7 Å⟩;obtain⟨z,hz⟩:∃z,v.gs[i]? =Α z:=⟨_,c7 Å⟩;let(o1,o2,o3):=ax i l g z J O hz;let W:=bY O;let Df:=bY hz;refine ß;refine⟨_,Á,_,Á,bh (j _ _ U.l.pl) T.cP T.mX Åv ⟨_,Á,p.gl,_,_,.ref g.a,Á,Á,aa.of (j _ _ U.l.gl),gc (by rw[bU,O];rfl),
   _,rfl,bh (j _ _ (VS Y)) TV.1 (TV.2 _ Ä) (ajX v) ⟨_,rfl,v.gl,_,_,.ref z.a,rfl,rfl,aa.of (j _ _ (ajY Y)),gc (by rw[bU,hz];rfl),l,g,z,rfl,λx hx=>?_,(U.l.sub W).E j,(ajZ Y Df).E j,o1,o2,o3,λH3 s3=>?_⟩⟩⟩
  .exact j _ _ (Z x (by ext eV;exact aQ _ (lr.mpr ⟨l,hm,hx⟩)))
  .refine f.step hD Ô Åk Ŷ aX.nil Ä;rw[De J,getD_map O,getD_map hz]
 .let(ys,s1,fU,VT,fl):=f.end;rw[az] at VT;apply(D,_,Á,aa.of (Gx (b:=λi=>vo Ço ((p.ak.M cz.m).D i ⟨false,false,[]⟩) ((v.gs.M ck.m).D i [])) fU VT λi v e=>?_),?_)
  .let(ns,(_,e),_):=fl i v e;omega
  .symm
end
def rZ(p:Nat->Bool)(g:Nat->Int)(n:Nat):LI:=((List.range n).J p).M g
def ox(H1:Hp)(D:Addr)(p:Nat->Bool)(g:Nat->Int)(i:Nat)(H:Hp):Prop:=ai H1 H/\H D=Α (.lst (iv (rZ p g i)))
def ox.zero(j:H1 D=Β):ox H1 D p g 0 ď:=⟨aN j,aq⟩
def aj9(p:Nat->Bool)(g:Nat->Int)(i:Nat):(rZ p g i).L<=i:=by
 ext rZ;grind
def ox.yes(j:H1 D=Β)(hi:i<1000000)(f:ox H1 D p g i H)(s:ai H H4)(h:p i=true)(m:v=V.int (g i)):j8 D (ox H1 D p g (i+1)) v H4:=by
 subst m;apply(_,s _ _ f.2,?_,fu (f.1.R s) j,?_)
 .rw[fb];let:=aj9 p g i;exact g9 Ô
 .ext rZ;rw[aq,Dd,af h,bZ];simp
def ox.no(f:ox H1 D p g i H)(s:ai H H4)(h:¬p i=true):ox H1 D p g (i+1) H4:=by
 apply(f.1.R s,?_);ext rZ;rw[Dd,ag h,jG];exact s _ _ f.2
def fk(H1:Hp)(D:Addr)(g:Nat->Int)(i:Nat)(H:Hp):Prop:=ai H1 H/\H D=Α (.lst (iv ((List.range i).M g)))
def fk.zero(j:H1 D=Β):fk H1 D g 0 ď:=⟨aN j,aq⟩
def fk.step(j:H1 D=Β)(hi:i<1000000)(f:fk H1 D g i H)(s:ai H H4)(m:v=V.int (g i)):j8 D (fk H1 D g (i+1)) v H4:=by
 subst m;apply(_,s _ _ f.2,?_,fu (f.1.R s) j,?_)
 .rw[fb,az,gq];exact g9 Ô
 .rw[aq,IF,bZ];simp
def lO(ms:aG)(s:Nat):Int:=(ms.D s fq).kI
def AE(ms:aG)(sames row:LN)(above b:Nat):Bool:=decide (lO ms ň<=(above:Int))&&decide (row.D ((lO ms ň).toNat-1) 0=row.D above 0)
def GG(ms:aG)(sames row:LN)(above:Nat):Int:=(rZ (AE ms sames row above) (λb=>2^b) sames.L).sum
structure Dg(ms:aG)(sames:LN):Prop where
 dh:sames.L<=1000
 lt:∀s∈sames,s<ms.L
 pos:∀s∈sames,1<=lO ms s
inductive Nj(CK:Addr)(vs:ay)(H:Hp)(Q:VK)(E':XK):Prop
 |mk (pk ps pr:Addr) (ks:List aB) (sames row:LN) (above:Nat) (_:vs=[.ref pk,.ref ps,.ref pr,.int (above:Nat)]) (_:Ŵ ks) (_:H ps=Α Àd) (_:Dg Í sames) (_:H pr=Α Ãy) (_:above<row.L) (_:∀H',ai H H'->Q (.int (GG Í sames row above)) H')
section
variable{P:Pg}{w:Wd}{K:FR}{mg:MG}{base:Heap}{CK CL CS N CV:Addr}{C:Cs}
def Dh:bQ ["kinds","sames","row","above","whiches","number","bit","which"] ["kinds","sames","row","above"] (aY Lm):=cJ
def boot_sum:bootBuiltins "sum"=Α (.builtin "sum"):=by decide+kernel
def aka(F:bx K "bits_of_sames" "bits_of_sames" Lm f fd)(T:tI K CK)(tS:mg "sum"=Β)(tE:mg "enumerate"=Β):Ì aF 1 f fd ["kinds","sames","row","above"] (Nj CK):=by
 refine F.ok Dh Â;let(pk,ps,pr,ks,sames,row,above,rfl,hk,kU,U,g8,kq,k):=h;refine⟨_,aD (uW (i:=4) (own:=[("number",5)]) (te:=f7 K (bV ž ύ (aA 5)) "which") Á Dh.nd Á Á Ò Æy Ê
   (λ_ _ _ _ _=>dy 5 Dh.nd) Õ (λ_ _ _ _ _=>bg (cQ c8 Ú Äl Ø) rfl))
  (aE (a0 (dc (RL rfl) Ò tS boot_sum (ae (eB (own:=[("bit",6),("which",7)]) (g:=g2 K 6 7) (tt:=EA (nP (bV (gu λi j=>.bl (decide (i<=j))) Èw Ş)) (nP (bV oW (bV ž š (bV (gu λi j=>.int (i-j)) Èw Åj)) (bV ž š Ş)))) (te:=bV (rI Q6 λi j=>.int (i*2^j.toNat)) Åj (aA 6)) rfl Dh.nd
   (lI Ò tE Ϭ) Ê
   (λ_ _ _ _ _=>iM 6 7 Dh.nd)
   (λ_ _ _ _ _=>qj (PW.pt (pw_and (cV xT Åt ú (bW _)) (pw_and1 (cV ir (cQ c8 è (eP rn Åt bp) Ø) (cQ c8 è ú Ø) (bW _))))))
   (λ_ _ _ _ _=>eP Jl bp Ãr)) ah)))),?_⟩
 refine⟨_,Á,ps,Á,⟨_,aa.of kU⟩,λD hD=>gC (K:=K) (a:=ps) (xs:=iv (nv sames)) (fk H D λi=>lO Í Ň) Àv (λi H' _ f=>aa.of (f.1 _ _ kU)) Č ý⟩
 .let(z,hz,rfl):=om hi;let d7:=(bO.mp hz).1;let Df:=bY hz;let br:=U.lt z Df;let VU:=U.dh;rw[az] at br;obtain⟨b,hb⟩:∃b,ks[z]? =Α b:=⟨_,c7 br⟩;apply(Á,eJ ⟨_,Á,_,Á,pk,_,_,.ref b.a,Á,Á,aa.of (f.1 _ _ hk.a),gc Å,bh (jy ((og hk.l Èe).E f.1)) T.c T.Mz (Mx b) ?_⟩);apply fk.step hD Ô f ĵ ?_;ext lO;symm
 .let hd:=f.2;let s1:=f.1;rw[fb,jR] at hd;apply(_,Á,D,_,Á,aa.of hd,λD2 cg=>l7 (K:=K) (a:=D) (xs:=iv ((List.range sames.L).M λi=>lO Í Ň)) (ox H' D2 (AE Í sames row above) (λb=>2^b)) (ox.zero cg) (λi O _ f=>aa.of (f.1 _ _ hd)) (λi x Tt O hi J hT=>?_) (λO J=>?_))
  .let(z,hz,rfl):=tG hi;rw[bU] at hz;cases er:(List.range sames.L)[i]? with
   |none=>symm
   |some j=>
    rw[er] at hz;let d7:=(bO.mp er).1;rw[gq] at d7;cases yx er;let hz:lO Í Ň=z:=aO hz;subst hz;let VU:=U.dh;let VV:=U.pos Ň Å;let Y:ai O (upd O Tt (.tup [.int (i:Nat),.int (lO Í Ň)])):=aN hT;let Z:=(s1.R J.1).R Y;refine ñ;let eb:AE Í sames row above i=(decide (lO Í Ň<=(above:Int))&&decide (row.D ((lO Í Ň).toNat-1) 0=row.D above 0)):=rfl;generalize lO Í Ň=W at VV eb Y Z;apply and_val (decide (W<=(above:Int))) (decide (row.D (W.toNat-1) 0=row.D above 0)) (λK q=>⟨_,Á,_,Á,_,_,Á,Á,_,Á,q⟩) (λhc K q=>?_) (bc Ï Ï)
    .let i5:=sE hc;apply(_,Á,_,Á,_,_,Á,Á,pr,_,_,.int ((row.D (W.toNat-1) 0:Nat):Int),Á,Á,aa.of (Z _ _ g8),?_,_,Á,_,Á,pr,_,_,.int ((row.D above 0:Nat):Int),Á,Á,aa.of (Z _ _ g8),gc (GC kq),Á,_,Á,?_)
     .rw[show W-1=((W.toNat-1:Nat):Int) by lia];exact gc (GC Ô)
     .rw[my];omega
    .apply(_,Á,_,_,Á,Á,⟨by simp_all,by lia,by decide⟩,?_);apply J.yes cg Ô Y (eb.R hc) ?_;simp
    .exact J.no Y Å
  .let e:=J.2;rw[fb,az,gq] at e;exact(D2,_,Á,aa.of e,k O (s1.R J.1))
end
def Di(K:FR)(t:TE):TT:=λσ H Q=>t σ H λx H'=>∃k,Jn K x H' k/\Q k H'
def tW(ms:aG)(sames row:LN)(above:Nat):Nat:=(((List.range sames.L).J (AE ms sames row above)).M (2^ ·)).sum
theorem akb(l:LN):(nv l).sum=((l.sum:Nat):Int):=by
 induction l with
 |nil=>rfl
 |cons a l j=>
  symm
def akc(ms:aG)(sames row:LN)(above:Nat):GG ms sames row above=((tW ms sames row above:Nat):Int):=by
 ext GG tW rZ;rw[<-akb];ext nv;rw[cZ];congr 1
def qK(ms:aG)(sames row:LN):LN:=(List.range row.L).M (tW ms sames row)
inductive Nk(CK:Addr)(vs:ay)(H:Hp)(Q:VK)(E':XK):Prop
 |mk (pk ps pr:Addr) (ks:List aB) (sames row:LN) (_:vs=[.ref pk,.ref ps,.ref pr]) (_:Ŵ ks) (_:H ps=Α Àd) (_:Dg Í sames) (_:H pr=Α Ãy) (_:row.L<=1000) (_:∀H' p,ϩ (.lst (iv (nv (qK Í sames row))))->Q ĝ H')
def hZ(g b:Nat):Bool:=Builtin.bitAnd (b:Int) (Builtin.bitNot (g:Int))!=0
def r6(g:Nat)(j:LN):Nat:=(j.J (hZ g)).L
inductive Nl(K:FR)(vs:ay)(H:Hp)(Q:VK)(E':XK):Prop
 |mk (g:Nat) (pp:Addr) (places:LN) (_:vs=[.int (g:Nat),.ref pp]) (_:ã pp (iv (nv places))) (_:places.L<=1000) (_:∀H',ai H H'->Q (.int ((r6 g places:Nat):Int)) H')
def yK(g b:Nat):Bool:=Builtin.bitAnd ((g:Int)/2^b) 1!=0
def r9(ms:aG)(sames:LN)(g:Nat):Int:=(rZ (yK g) (λb=>(ms.D ň fq).copies) sames.L).sum
inductive Nm(CK:Addr)(vs:ay)(H:Hp)(Q:VK)(E':XK):Prop
 |mk (g:Nat) (pk ps:Addr) (ks:List aB) (sames:LN) (_:vs=[.int (g:Nat),.ref pk,.ref ps]) (_:Ŵ ks) (_:H ps=Α Àd) (_:Dg Í sames) (_:∀H',ai H H'->Q (.int (r9 Í sames g)) H')
section
variable{P:Pg}{w:Wd}{K:FR}{mg:MG}{base:Heap}{CK CL CS N CV:Addr}{C:Cs}
def Nn:bQ ["kinds","sames","row","above"] ["kinds","sames","row"] (aY Ll):=cJ
def akd(F:bx K "sames_along" "sames_along" Ll f fd)(tL:mg "len"=Β)(Z:mg "range"=Β)(J:Ç 1 "bits_of_sames" ["kinds","sames","row","above"] (Nj CK)):Ì aF 2 f fd ["kinds","sames","row"] (Nk CK):=by
 refine F.ok Nn Â;let(W,ps,z,ks,sames,row,rfl,hk,U,O,j,GH,k):=h;refine⟨_,aE (a0 (eB (own:=[("above",3)]) (te:=ic (Nj CK) [] E0 (bo ύ (bo Ϟ (bo š Âx)))) Á Nn.nd (Jg Ò Z (ae þ ah)) Ê
  (λ_ _ _ _ _=>dy 3 Nn.nd) Õ (λ_ _ _ _ _=>bH J (ae Ú (ae â (ae è Ĺ)))))),?_⟩
 apply(_,Á,z,_,Á,.inl (aa.of j),(row.L:Int),by simp,by simp_all,by lia,λD hD=>?_);rw[xB];refine ET (lo:=0) (n:=row.L) (fk H D λi=>GG Í sames row i) Àv Âm ý
 .apply(Á,eJ ⟨_,Á,_,Á,_,Á,_,Á,W,ps,z,ks,sames,row,i,?_,hk.E f.1,f.1 _ _ U,O,f.1 _ _ j,hi,λH3 Y=>?_⟩)
  .simp
  .exact fk.step hD Ô f Y Á
 .apply k H' D ⟨f.1,hD,?_⟩;rw[f.2];ext qK nv;rw[cZ];congr 3;exact lh λi _=>akc _ _ _ i
def Np:bQ ["group","places","bits"] ["group","places"] (aY Lp):=cJ
def ake(F:bx K "places_outside" "places_outside" Lp f fd)(U:mg "len"=Β):Ì aF 1 f fd ["group","places"] (Nl K):=by
 refine F.ok Np Â;let(g,J,places,rfl,Y,Z,k):=h;refine⟨_,aE (a0 (dc gf Ò U PySem.boot_len (ae (eB (own:=[("bits",2)]) (tt:=Di K (bV (gu λi j=>.int ř) š (EH (rU λi=>.int Åf) ύ))) (te:=aA 2) Á Np.nd Æy Ê
  (λ_ _ _ _ _=>dy 2 Np.nd) (λ_ _ _ _ _=>qj (zD (eP BL è (jt Q9 Ú)) Äc)) Äe) ah))),?_⟩
 refine⟨_,Á,J,Á,⟨_,Y⟩,λD m=>gC (K:=K) (a:=J) (xs:=iv (nv places)) (ox H D (λi=>hZ g Åu) (λi=>((places.D i 0:Nat):Int))) (ox.zero m) (λi H' _ f=>f.1.seq Y) Č ý⟩
 .let(z,hz,rfl):=om hi;let W:=(bO.mp hz).1;refine⟨Á,_,Á,_,Á,_,Á,_,_,Á,Á,_,Á,bc Ï Ï⟩
  .exact(_,Á,f.yes m á ĵ (by rw[getD_at hz];exact hc) Å)
  .exact f.no ĵ (by rw[getD_at hz];exact hc)
 .let e:=f.2;rw[fb,jR] at e;apply(D,_,Á,.inl (aa.of e),?_);let el:(iv (rZ (λi=>hZ g Åu) (λi=>((places.D i 0:Nat):Int)) places.L)).L=r6 g places:=by
   rw[fb];ext rZ r6;rw[az];let O:((List.range places.L).J λi=>hZ g Åu).L=(((List.range places.L).M λi=>places.D i 0).J (hZ g)).L:=by
    rw[zo,az];rfl
   rw[O];let h2:=xj (l:=places) (g:=λx=>x) (d:=0);symm
  rw[el];exact k H' f.1
def Nq:bQ ["group","kinds","sames","bit","number"] ["group","kinds","sames"] (aY Lq):=cJ
def akf(F:bx K "copies_in" "copies_in" Lq f fd)(T:tI K CK)(tS:mg "sum"=Β)(tE:mg "enumerate"=Β):Ì aF 1 f fd ["group","kinds","sames"] (Nm CK):=by
 refine F.ok Nq Â;let(g,pk,ps,ks,sames,rfl,hk,Y,U,k):=h;refine⟨_,aE (a0 (dc (RL Á) Ò tS boot_sum (ae (eB (own:=[("bit",3),("number",4)]) (g:=g2 K 3 4) (tt:=Di K (bV (gu λi j=>.int ř) (bV (rI (λ_ j=>0<=j) λi j=>.int (i/2^j.toNat)) ύ Ş) Åj)) (te:=f7 K (bV ž Ϟ Ãv) "copies") Á Nq.nd
  (lI Ò tE ū) Ê
  (λ_ _ _ _ _=>iM 3 4 Nq.nd)
  (λ_ _ _ _ _=>qj (zD (eP BL (eP Q7 Ú ú) bp) Äc)) (λ_ _ _ _ _=>bg (cQ c8 â ĸ Ø) rfl)) ah))),?_⟩
 refine⟨_,Á,ps,_,Á,aa.of Y,λD W=>l7 (K:=K) (a:=ps) (xs:=iv (nv sames)) (ox H D (yK g) (λb=>((ks.M aB.m).D ň fq).copies)) (ox.zero W) (λi H' _ f=>aa.of (f.1 _ _ Y)) œ ý⟩
 .let(z,hz,rfl):=om hi;let d7:=(bO.mp hz).1;let Df:=bY hz;let O:=U.lt z Df;let VU:=U.dh;rw[az] at O;obtain⟨b,hb⟩:∃b,ks[z]? =Α b:=⟨_,c7 O⟩;let J:ai H' (Ϩ (.tup [.int (i:Nat),.int (z:Nat)])):=aN hT;let Z:=f.1.R J;refine ñ;refine⟨_,Á,_,Á,_,_,Á,Á,IG i,_,_,Á,Á,_,Á,bc Ï Ï⟩
  .exact(_,Á,_,Á,pk,_,_,.ref b.a,Á,Á,aa.of (Z _ _ hk.a),gc Å,bh (jy ((og hk.l Èe).E Z)) T.c T.MA (My b) (f.yes W Ô J hc Å))
  .exact f.no J hc
 .let e:=f.2;rw[fb,jR] at e;exact(D,_,Á,aa.of e,k H' f.1)
end
def gI(n:Nat):V:=.int (n:Nat)
def oneMore(t:cu)(s:Nat):cu:=eC t s ((b7 t s).D 0+1)
def gH(F:LN):cu:=F.foldl oneMore []
def Dj(l:LN)(s:Nat):gH (l++[s])=oneMore (gH l) s:=by
 ext gH;simp
def snoc_ind{α:Type}{P:List α->Prop}(j:P [])(hs:∀l a,P l->P (l++[a]))(l:List α):P l:=by
 let h:∀m:List α,P m.reverse:=λm=>by
  induction m with
  |nil=>exact j
  |cons a m z=>symm
 let:=h l.reverse;symm
def Nr(l:LN):(gH l).L<=l.L:=by
 refine snoc_ind (P:=λl=>(gH l).L<=l.L) (bw _) Ãz l;rw[Dj,mq];let:=Tf (gH l) s ((b7 (gH l) s).D 0+1);ext oneMore;grind
def GI(l:LN):((gH l).M (·.1)).Nodup:=by
 refine snoc_ind (P:=λl=>((gH l).M (·.1)).Nodup) Bq Ãz l;rw[Dj];exact Fn ih
def VW(l:LN)(s:Nat):(b7 (gH l) s).D 0=l.count s:=by
 refine snoc_ind (P:=λl=>(b7 (gH l) s).D 0=l.count s) Á Áy l;rw[Dj];ext oneMore;rw[Fm,List.count_append];by_cases h:s=x
 .subst h;rw[af rfl,ih,List.count_singleton_self];rfl
 .rw[ag h,ih,List.count_eq_zero_of_not_mem (l:=[x]) (À h)];rfl
def VX(l:LN)(s:Nat):(b7 (gH l) s).isSome=l.Y s:=by
 refine snoc_ind (P:=λl=>(b7 (gH l) s).isSome=l.Y s) Á Áy l;rw[Dj];ext oneMore;rw[Fm];by_cases h:s=x
 .subst h;rw[af rfl];simp
 .rw[ag h,ih];simp[h]
def VY(h:p∈gH l):p.1∈l:=by
 let j:=z5 (GI l) (s:=p.1) (v:=p.2) h;let h2:=VX l p.1;symm
def tX(ms:aG)(s:Nat):Int:=(ms.D s fq).copies
def pC(ms:aG)(p:Nat×Nat):Option (Nat×Int):=if (p.2:Int)>tX ms p.1 then some (p.1,(p.2:Int)-tX ms p.1) else none
def jA(ms:aG)(F:LN):List (Nat×Int):=(gH F).filterMap (pC ms)
theorem GJ(ms:aG):∀t:cu,((t.filterMap (pC ms)).M (·.1)).Sublist (t.M (·.1)):=by
 intro t;induction t with
 |nil=>exact List.Sublist.refl _
 |cons p t j=>
  let j:=j;rw[D0,a8];let m:pC ms p=Β\/∃z,pC ms p=Α (p.1,z):=by
   ext pC;split
   .exact .inr ⟨_,Á⟩
   .exact .inl Á
  rcases m with e|⟨z,e⟩
  .rw[e];exact List.Sublist.cons _ j
  .rw[e];exact List.Sublist.cons₂ _ j
structure Nt(H:Hp)(y:ck)(n:Nat):Prop where
 l:aX H Æz
 dh:y.ls.L<=1000
 short:∀x∈y.ls,x.ns.L<=1000
 lt:∀x∈y.ls,∀s∈x.ns,s<n
inductive VZ(CK:Addr)(vs:ay)(H:Hp)(Q:VK)(E':XK):Prop
 |mk (pk:Addr) (ks:List aB) (y:ck) (_:vs=[.ref pk,.ref y.a]) (_:Ŵ ks) (_:Nt H y ks.L) (_:∀H' p,ϩ (.dK (bG V.int Äp))->Q ĝ H')
section
variable{P:Pg}{w:Wd}{K:FR}{mg:MG}{base:Heap}{CK CL CS N CV CP:Addr}{C:Cs}
def V0:bootBuiltins "dict"=Α (.type "dict"):=by decide+kernel
def AF:bQ ["kinds","rows","used","row","sign","times"] ["kinds","rows"] (aY Lk):=cJ
def akg(F:bx K "copies_lacking" "copies_lacking" Lk f fd)(T:tI K CK)(tD:mg "dict"=Β):Ì aF 1 f fd ["kinds","rows"] (VZ CK):=by
 refine F.ok AF Â;let(pk,ks,y,rfl,hk,hy,k):=h;refine⟨_,aD (cy 2 AF.nd EV)
  (aD (ϒ Æy (dy 3 AF.nd) (aE (ϒ (eW ú) (dy 4 AF.nd)
   (aE (JP (zV hr) è ĸ (eP rl (adm (zV hr) è ĸ bp ⟨rfl,rfl,rfl,rfl⟩) bp) rfl)))))
  (aE (a0 (wb (adC rfl) Ò tD V0 (ae (adH (eB (own:=[("sign",4),("times",5)]) (g:=g2 K 4 5) (tt:=nP (bV (gu λi j=>.bl (decide (j<i))) (aA 5) (f7 K (bV ž ύ Ãv) "copies")))
   (te:=xU (bo Ãv (bo (bV (gu λi j=>.int (i-j)) (aA 5) (f7 K (bV ž ύ Ãv) "copies")) dQ))) rfl AF.nd (Ss è) Ê
   (λ_ _ _ _ _=>iM 4 5 AF.nd)
   (λ_ _ _ _ _=>qj (cV wa Äl (bg (cQ c8 Ú ĸ Ø) rfl) (bW _)))
   (λ_ _ _ _ _=>uQ (ae ĸ (ae (eP rn Äl (bg (cQ c8 Ú ĸ Ø) rfl)) ah))))) ah))))),?_⟩
 intro d hd;let tY:ai H (upd H d Àz):=aN hd;let V1:∀i,(y.ls.take i |>.map c6.ns).flatten.length<=1000000:=λi=>by
  let U:∀(l:List c6),(∀x∈l,x.ns.L<=1000)->(l.M c6.ns).flatten.length<=1000*l.L:=by
   intro l;induction l with
   |nil=>simp
   |cons a l ih=>
    grind
  let h2:=U (y.ls.take i) λx hx=>hy.short x (IB hx);let h3:=hy.dh;grind
 refine⟨_,Á,y.a,Á,⟨_,aa.of (tY _ _ (jS hy.l))⟩,xR (K:=K) (a:=y.a) (xs:=y.ls.M λx=>V.ref x.a) (λi σ H'=>∃v3 v4,σ=[some (.ref pk),some Ày,some Éa,v3,v4,none]/\ai H H'/\H' d=Α (.dK (bG gI (gH (y.ls.take i |>.map c6.ns).flatten))))
  ⟨none,none,rfl,tY,aq⟩ (λi σ H' _ ⟨_,_,_,s1,_⟩=>aa.of (s1 _ _ (jS hy.l))) ?_ ?_⟩
 .rintro i x σ H' hi ⟨v3,v4,rfl,s1,vp⟩;let(r,U,rfl):=iC hi;let hm:=bY U;let et:=take_snoc U;let GO:=m6 hy.l hm;let Z:=V1 (i+1);rw[et,bZ,List.flatten_append] at Z;let Z:((y.ls.take i |>.map c6.ns).flatten++r.ns).L<=1000000:=by simpa using Z
  refine⟨_,Á,r.a,Á,⟨_,aa.of (s1 _ _ GO)⟩,xR (K:=K) (a:=r.a) (xs:=iv (nv r.ns)) (λj σ H'=>∃v4,σ=[some (.ref pk),some Ày,some Éa,some (.ref r.a),v4,none]/\ai H H'/\H' d=Α (.dK (bG gI (gH ((y.ls.take i |>.map c6.ns).flatten++r.ns.take j)))))
   ⟨v4,rfl,s1,by rw[List.take_zero,jG];exact vp⟩ (λj σ H' _ ⟨_,_,J,_⟩=>aa.of (J _ _ GO)) ?_ ?_⟩
  .rintro j x σ O hj ⟨v4,rfl,J,Y⟩;let(z,hz,rfl):=om hj;let wg:=(bO.mp hz).1;let t7:=take_snoc hz;generalize hF:(y.ls.take i |>.map c6.ns).flatten=F0 at Y Z⊢;let gB:=Nr (F0++r.ns.take j);rw[mq,nB] at gB;rw[mq] at Z;generalize hT:gH (F0++r.ns.take j)=W at Y gB;apply(_,Á,d,Á,.inl ⟨_,.inl Y⟩,_,Á,(b7 W z).M gI,?_,((b7 W z).D 0:Nat),1,?_,Á,_,Á,_,Á,d,_,Á,ya.k (k:=Sum.inl ((z:Nat):Int)) Y (by rw[yg];exact g9 Ô),?_)
   .let q:=j9.k (k:=(Sum.inl ((z:Nat):Int):Key)) Y;rw[z4] at q;exact q
   .cases b7 W z <;> rfl
   .apply(_,Á,rN J hd,?_);rw[aq,t7,<-qW,Dj,hT];ext oneMore;rw[<-Cm];rfl
  .symm
 .rintro σ H' ⟨v3,v4,rfl,s1,vp⟩;rw[az,nE] at vp;let ef:(y.ls.M c6.ns).flatten=y.m.flatten:=rfl;rw[ef] at vp;let hmu:=True.intro;apply(d,_,vp,hmu,λod=>?_);let sl:ai H (upd H' d Èg):=rN s1 hd;let jJ:(upd H' d Èg) d=Α Èg:=aq;generalize upd H' d Èg=H1 at sl jJ;let gB:=Nr y.m.flatten;let Z:=V1 y.ls.L;rw[nE,ef] at Z;let br:∀p∈gH y.m.flatten,p.1<ks.L:=λp hp=>by
   let U:=VY hp;let(l,hl,h2):=List.mem_flatten.mp U;delta ck.m at hl;let(x,hx,rfl):=b9.mp hl;exact hy.lt x hx _ h2
  let Dk:=GI y.m.flatten;let Nu:jA Í y.m.flatten=(gH y.m.flatten).filterMap (pC Í):=rfl;generalize gH y.m.flatten=W at jJ gB br Dk Nu;refine⟨_,Á,d,od,_,Á,jJ,λD hD=>aeN (d:=d) (o:=od) (kvs:=bG gI W) (λi O=>∃ps:LA,ai H1 O/\O D=Α (.lst Âd)/\ps.L<=i/\Paired (λp kv=>O p=Α (.tup [kV kv.1,kv.2])) ps (bG V.int ((W.take i).filterMap (pC Í))))
   ⟨[],aN hD,aq,bw _,.nil⟩ (λi O _ ⟨_,J,_⟩=>J _ _ jJ) ?_ ?_⟩
  .rintro i kk vv Tt O hi ⟨ps,J,cg,dg,g8⟩ hT;let(sg,n,U,rfl,rfl):=J6 gI hi;let d7:=(bO.mp U).1;let et:=take_snoc U;let BS:=br _ (bY U);obtain⟨b,hb⟩:∃b,ks[sg]? =Α b:=⟨_,c7 BS⟩;let wK:=bY hb;let s3:ai O (upd O Tt (.tup [.int (sg:Nat),.int (n:Nat)])):=aN hT;let s4:=(sl.R J).R s3;let ec:tX Í sg=b.m.copies:=by ext tX;rw[getD_map hb]
   refine ñ;refine⟨_,Á,_,Á,_,Á,pk,_,_,.ref b.a,Á,Á,aa.of (s4 _ _ hk.a),gc Å,bh (jy ((og hk.l wK).E s4)) T.c T.MA (My b) ⟨_,_,Á,Á,_,Á,bc Ï Ï⟩⟩
   .simp at hc;apply(_,Á,_,Á,_,Á,_,Á,pk,_,_,.ref b.a,Á,Á,aa.of (s4 _ _ hk.a),gc Å,bh (jy ((og hk.l wK).E s4)) T.c T.MA (My b) ⟨_,_,Á,Á,(by show 2<=sizeLine;decide),λt ht=>?_⟩);let Dl:=s3.free ht;let s5:=s3.R (aN (o:=.tup [.int (sg:Nat),.int (((n:Nat):Int)-b.m.copies)]) ht);let Nv:D≠t:=λz=>by rw[<-z,cg] at Dl;cases Dl
    apply(_,s5 _ _ cg,?_,ps++[t],?_,?_,?_,?_)
    .rw[az];exact g9 Ô
    .exact rN (J.R s5) hD
    .rw[aq,bZ];rfl
    .symm
    .rw[et,ZV];let e1:([(sg,n)]:cu).filterMap (pC Í)=[(sg,((n:Nat):Int)-b.m.copies)]:=by
      rw[D0];ext pC;symm
     rw[e1];ext bG;rw[bZ];apply Paired.snoc (Paired.nF g8 λp kv e=>?_) ?_
     .rw[ao ì];exact s5 _ _ e
     .rw[ao (dj Nv)];exact aq
   .simp at hc;apply(ps,J.R s3,s3 _ _ cg,Nat.le_succ_of_le dg,?_);rw[et,ZV];let e1:([(sg,n)]:cu).filterMap (pC Í)=[]:=by
     rw[D0];ext pC;grind
    rw[e1,jG];exact Paired.nF g8 λp kv e=>s3 _ _ e
  .rintro O ⟨ps,J,cg,dg,g8⟩;rw[yg,nE] at g8;rw[<-Nu] at g8;let Y:=J _ _ jJ;let hDd:D≠d:=λz=>by rw[z,jJ] at hD;cases hD
   let s5:ai H (upd O d (.dK (bG gI W))):=rN (sl.R J) hd;apply(Y,D,ps,_,Á,aa.of (by rw[ao hDd];exact cg),Paired.nF g8 λp kv e=>bz.of (by rw[ao (λz=>by rw[z,Y] at e;cases e)];exact e),λp hp=>?_);let akj:((jA Í y.m.flatten).M (·.1)).Nodup:=by
    rw[Nu];exact asd (GJ _ W) Dk
   let em:=aeT V.int Äp [] akj;rw[zp] at em;apply k _ p ⟨s5.R (aN hp),s5.free hp,?_⟩;rw[aq];exact cw (λz=>some (HO.dK z)) em
end
def gL(x:c6):V:=.ref x.a
def oneAt(t:List (Nat×LN))(p:Nat×Nat):List (Nat×LN):=eC t p.1 ((b7 t p.1).D []++[p.2])
def iY(ps:cu):List (Nat×LN):=ps.foldl oneAt []
def Dm(l:cu)(p:Nat×Nat):iY (l++[p])=oneAt (iY l) p:=by
 ext iY;simp
def places_len(l:cu):(iY l).L<=l.L:=by
 refine snoc_ind (P:=λl=>(iY l).L<=l.L) (bw _) Ãz l;rw[Dm,mq];let:=Tf (iY l) s.1 ((b7 (iY l) s.1).D []++[s.2]);ext oneAt;grind
def V2(l:cu)(s:Nat):(b7 (iY l) s).D []=(l.J λp=>decide (p.1=s)).M (·.2):=by
 refine snoc_ind (P:=λl=>(b7 (iY l) s).D []=(l.J λp=>decide (p.1=s)).M (·.2)) Á Áy l;rw[Dm,El,bZ,<-ih];ext oneAt;rw[Fm];by_cases h:s=x.1
 .rw[af h,xJ,af (by simp[h]),h];rfl
 .rw[ag h,xJ,ag (by simpa using λe=>h e.symm)];simp
def V3(l:cu){s:Nat}{x:LN}(h:b7 (iY l) s=Α x):x.L<=l.L:=by
 let:=V2 l s;grind
def cont(p:Nat×c6):Nat×LN:=(p.1,p.2.ns)
structure Do(H0 H:Hp)(d:Addr)(t:List (Nat×c6)):Prop where
 d:H d=Α (.dK (bG gL t))
 l:∀p∈t,H p.2.a=Α (.lst (iv (nv p.2.ns)))
 nd:(t.M λp=>p.2.a).Nodup
 fr:∀p∈t,H0 p.2.a=Β
theorem AG(t:List (Nat×c6))(s:Nat):b7 Âb s=(b7 t s).M c6.ns:=by
 induction t with
 |nil=>rfl
 |cons p t j=>
  delta b7 at j⊢;rw[a8,k9,k9,show(cont p).1=p.1 from rfl];cases decide (p.1=s) with
  |true=>rfl
  |false=>exact j
def V4(t:List (Nat×c6))(s:Nat)(x:c6):(eC t s x).M cont=eC Âb s x.ns:=by
 ext eC;rw[qm,qm,AG,Ee];split
 .rw[cZ,cZ];apply lh λp _=>?_;show cont (if p.1=s then (p.1,x) else p)=if p.1=s then (p.1,x.ns) else cont p;split <;> rfl
 .rw[bZ];rfl
def akk{t:List (Nat×c6)}{s:Nat}{x y:c6}(h:b7 t s=Α x)(e:y.a=x.a)(j:(t.M (·.1)).Nodup):bG gL (eC t s y)=bG gL t:=by
 ext eC;rw[qm,h,af (show(some x).isSome=true from rfl)];ext bG;rw[cZ];apply lh λp m=>?_;show((Sum.inl (((if p.1=s then (p.1,y) else p).1:Nat):Int):Key),gL (if p.1=s then (p.1,y) else p).2)=(Sum.inl ((p.1:Nat):Int),gL p.2);by_cases c:p.1=s
 .rw[af c];let:=z5 j (s:=s) (v:=p.2) (by grind);rw[h] at this;cases this;ext gL;rw[e]
 .symm
def akl{t:List (Nat×c6)}{s:Nat}{x y:c6}(h:b7 t s=Α x)(e:y.a=x.a)(j:(t.M (·.1)).Nodup):((eC t s y).M λp=>p.2.a)=t.M λp=>p.2.a:=by
 ext eC;rw[qm,h,af (show(some x).isSome=true from rfl),cZ];apply lh λp m=>?_;show(if p.1=s then (p.1,y) else p).2.a=p.2.a;by_cases c:p.1=s
 .rw[af c];let:=z5 j (s:=s) (v:=p.2) (by grind);symm
 .symm
def yM{β:Type}{t:List (Nat×β)}{s:Nat}{v:β}{p:Nat×β}(h:p∈eC t s v):p=(s,v)\/(p∈t/\p.1≠s):=by
 delta eC at h;grind
def akm{t:List (Nat×c6)}(h:(t.M λp=>p.2.a).Nodup){p q:Nat×c6}(z:p∈t)(F:q∈t)(O:p.1≠q.1):p.2.a≠q.2.a:=by
 intro e;let(i,hi,U):=qV z;let(j,Y,W):=qV F;let J:i=j:=by
  let m:(t.M λp=>p.2.a)[i]' Å=(t.M λp=>p.2.a)[j]' Å:=by
   symm
  exact(Zm h).mp m
 symm
def AH{α:Type}{l:List α}{i:Nat}{a:α}(h:l[i]? =Α a):l.drop i=a::l.drop (i+1):=by
 let(j,h2):=bO.mp h;rw[<-h2];simp
def eX(rows m:bq):cu:=(rows.zip m).flatMap λp=>p.1.zip p.2
inductive V5(vs:ay)(H:Hp)(Q:VK)(E':XK):Prop
 |mk (y z:ck) (_:vs=[.ref y.a,.ref z.a]) (_:aX H Æz) (_:aX H (eV z)) (_:y.ls.L=z.ls.L) (_:(∀(i:Nat)(a b:c6),y.ls[i]? =Α a->z.ls[i]? =Α b->a.ns.L=b.ns.L)) (_:(eX y.m z.m).L<=100000) (_:∀H' p t,ai H H'->H p=Β->Do H H' p t->t.M cont=iY Æx->Q ĝ H')
section
variable{P:Pg}{w:Wd}{K:FR}{mg:MG}{base:Heap}{CK CL CS N CV CP:Addr}{C:Cs}
def GT:bQ ["rows","stands","places","row","bits","sign","here"] ["rows","stands"] (aY Ln):=cJ
inductive PcI(y z:ck)(d:Addr)(H:Hp)(i:Nat)(σ:L2.St)(H':Hp):Prop
 |mk (v3 v4 v5 v6 t:_) (_:σ=[some Ày,some Äz,some Éa,v3,v4,v5,v6]) (_:ai H H') (_:Do H H' d t) (_:(t.M (·.1)).Nodup) (_:t.M cont=iY (eX Ÿ Àt))
inductive PcJ(y z:ck)(d:Addr)(H:Hp)(a b:c6)(i:Nat)(j:Nat)(σ:L2.St)(H':Hp):Prop
 |mk (v5 v6 t:_) (_:σ=[some Ày,some Äz,some Éa,some (.ref a.a),some Çl,v5,v6]) (_:ai H H') (_:Do H H' d t) (_:(t.M (·.1)).Nodup) (_:t.M cont=iY (eX Ÿ Àt++(a.ns.take j).zip Åq))
def akp{f:Addr}{fd:FD}(F:bx K "places_of" "places_of" Ln f fd)(tZ:mg "zip"=Β):Ì aF 1 f fd ["rows","stands"] V5:=by
 refine F.ok GT Â;let(y,z,rfl,hy,hz,cE,akq,zL,k):=h;refine⟨_,aD (cy 2 GT.nd EV)
  (aD (ϒ (Sv Ò tZ (ae Ú Ŝ)) (iM 3 4 GT.nd)
   (aE (ϒ (Sv Ò tZ (ae ú Ϭ)) (iM 5 6 GT.nd)
    (aE (sQ (Þ (aeW è Äl Ļ ⟨rfl,rfl,rfl,rfl⟩) (ae Ãr ah)))))))
  Çe),?_⟩
 intro d hd;let tY:ai H (upd H d Àz):=aN hd;let qL:=jS hy;let t9:=jS hz;refine⟨_,Á,_,Á,y.a,z.a,_,_,Á,aa.of (tY _ _ qL),aa.of (tY _ _ t9),Td (K:=K) (a:=y.a) (b:=z.a) (xs:=y.ls.M λx=>V.ref x.a) (ys:=z.ls.M λx=>V.ref x.a) (by rw[az,az];exact cE)
  (PcI y z d H)
  ⟨none,none,none,none,[],rfl,tY,⟨aq,by simp,Bq,by simp⟩,Bq,rfl⟩ (λi σ H' _ h=>(by let(_,_,_,_,_,_,s1):=h;exact(aa.of (s1 _ _ qL),aa.of (s1 _ _ t9)))) ?_ ?_⟩
 .rintro i x1 x2 T1 σ H' hi hj ⟨v3,v4,v5,v6,t,rfl,s1,tb,hn,et⟩ Kf;let(a,ha,rfl):=iC hi;let(b,hb,rfl):=iC hj;let Cg:=m6 hy (bY ha);let kT:=m6 hz Èe;let kq:=akq i a b ha hb;let V6:y.m[i]? =Α a.ns:=by ext ck.m;rw[bU,ha];rfl
  let V7:z.m[i]? =Α b.ns:=by ext ck.m;rw[bU,hb];rfl
  let eta:=take_snoc V6;let etb:=take_snoc V7;let s2:ai H' (upd H' T1 (.tup [.ref a.a,.ref b.a])):=aN Kf;let V8:Do H (upd H' T1 (.tup [.ref a.a,.ref b.a])) d t:=⟨s2 _ _ tb.d,λp J=>s2 _ _ (tb.l p J),tb.nd,tb.fr⟩;let br:(y.m.take i).L=(z.m.take i).L:=by rw[nB,nB,iI,iI,cE]
  apply(T1,_,Á,bz.of aq,Á,_,_,Á,_,_,Á,Á,?_);let s3:=s1.R s2;generalize upd H' T1 (.tup [.ref a.a,.ref b.a])=Hx at s3 V8;let Up:∀j,(eX Ÿ Àt++(a.ns.take j).zip Åq).L<=100000:=λj=>by
   let e1:eX y.m z.m=eX Ÿ Àt++(a.ns.zip b.ns++eX (y.m.drop (i+1)) (z.m.drop (i+1))):=by
    let ey:y.m=y.m.take i++(a.ns::y.m.drop (i+1)):=by
     rw[<-AH V6];simp
    let ez:z.m=z.m.take i++(b.ns::z.m.drop (i+1)):=by
     rw[<-AH V7];simp
    ext eX
    conv=>lhs;rw[ey,ez,ZW br,Ea,Bo,Em]
   grind
  refine⟨_,Á,_,Á,a.a,b.a,_,_,Á,aa.of (s3 _ _ Cg),aa.of (s3 _ _ kT),Td (K:=K) (a:=a.a) (b:=b.a) (xs:=iv (nv a.ns)) (ys:=iv (nv b.ns)) (by rw[fb,fb,jR,jR];exact kq)
   (PcJ y z d H a b i)
   ⟨v5,v6,t,rfl,s3,V8,hn,by rw[et];simp⟩ (λj σ H' _ h=>(by let(_,_,_,_,s4):=h;exact(aa.of (s4 _ _ Cg),aa.of (s4 _ _ kT)))) ?_ ?_⟩
  .rintro j x1 x2 T2 σ H2 wB CJ ⟨v5',v6',t2,rfl,s4,AI,mz,t7⟩ uZ;let(sg,kO,rfl):=om wB;let(U,V9,rfl):=om CJ;let e1:=take_snoc kO;let e2:=take_snoc V9;let wg:=(bO.mp kO).1;let s5:ai H2 (upd H2 T2 (.tup [.int (sg:Nat),.int (U:Nat)])):=aN uZ;let s6:=s4.R s5;let O:Do H (upd H2 T2 (.tup [.int (sg:Nat),.int (U:Nat)])) d t2:=⟨s5 _ _ AI.d,λp J=>s5 _ _ (AI.l p J),AI.nd,AI.fr⟩;let Wa:iY (eX Ÿ Àt++(a.ns.take (j+1)).zip (b.ns.take (j+1)))=oneAt (iY (eX Ÿ Àt++(a.ns.take j).zip Åq)) (sg,U):=by
    rw[e1,e2,ZW Å,<-qW,<-Dm];rfl
   let Wb:t2.L<=100000:=by
    let h1:(t2.M cont).L<=(eX Ÿ Àt++(a.ns.take j).zip Åq).L:=by
     rw[t7];exact places_len _
    grind
   apply(T2,_,Á,bz.of aq,Á,_,_,Á,_,_,Á,Á,?_);generalize upd H2 T2 (.tup [.int (sg:Nat),.int (U:Nat)])=H3 at s6 O;apply(_,Á,d,Á,.inl ⟨_,.inl O.d⟩,_,Á,du _,λq W=>⟨_,Sum.inl ((sg:Nat):Int),(aN W) _ _ O.d,Á,(by rw[yg];exact g9 Ô),λv hv=>?_,λhv=>?_⟩)
   .rw[z4] at hv;let(x,Y,rfl):=zf.mp hv;let gJ:=yh Y;let oy:=O.l _ gJ;let Z:ai H3 (upd H3 q ä):=aN W;let hxq:=eO oy W;let U2:x.a≠d:=λe=>by rw[e,O.d] at oy;cases oy
    let hxb:x.ns.L<=1000000:=by
     let h1:=AG t2 sg;rw[Y,t7] at h1;let h2:=V3 _ h1;grind
    apply(.inl ⟨Á,_,aa.of (Z _ _ oy)⟩,_,Á,x.a,_,_,Á,Á,Z _ _ oy,(by rw[fb,jR];exact g9 á),?_);apply(_,_,eC t2 sg ⟨x.a,x.ns++[U]⟩,Á,rN (s6.R Z) (O.fr _ gJ),⟨?_,λp J=>?_,?_,λp J=>?_⟩,Fn mz,?_)
    .rw[ao (dj U2),akk (y:=⟨x.a,x.ns++[U]⟩) Y rfl mz];exact Z _ _ O.d
    .rcases yM J with rfl|⟨J,aU⟩
     .rw[aq];simp
     .rw[ao (akm O.nd J gJ aU)];exact Z _ _ (O.l p J)
    .rw[akl (y:=⟨x.a,x.ns++[U]⟩) Y rfl mz];exact O.nd
    .rcases yM J with rfl|⟨J,aU⟩
     .exact O.fr (sg,x) gJ
     .exact O.fr p J
    .rw[V4,t7,Wa];ext oneAt;rw[<-t7,AG,Y];rfl
   .rw[z4] at hv;let Y:b7 t2 sg=Β:=by
     symm
    let Z:ai H3 (upd H3 q ä):=aN W;let Wc:q≠d:=λe=>by rw[e,O.d] at W;cases W
    let FQ:=s6.free W;let MH:(upd (upd H3 q ä) d (.dK (putK (bG gL t2) (Sum.inl ((sg:Nat):Int)) Èy))) q=Α ä:=by rw[ao Wc];exact aq
    apply(.inl ⟨Á,_,aa.of MH⟩,_,Á,q,_,_,Á,Á,MH,(by show 0<sizeLine;exact g9 Å),?_);apply(_,_,eC t2 sg ⟨q,[U]⟩,Á,rN (rN (s6.R Z) hd) FQ,⟨?_,λp J=>?_,?_,λp J=>?_⟩,Fn mz,?_)
    .rw[ao (dj Wc),aq];exact cw (λz=>some (HO.dK z)) (Cm gL t2 sg ⟨q,[U]⟩)
    .rcases yM J with rfl|⟨J,aU⟩
     .rw[aq];rfl
     .let dg:=O.l p J;rw[ao (eO dg W),ao (λe=>by rw[e,O.d] at dg;cases dg)];exact Z _ _ dg
    .ext eC;rw[qm,Y];show((t2++[(sg,(⟨q,[U]⟩:c6))]).M λp=>p.2.a).Nodup;rw[bZ];apply JT O.nd λm=>?_;let(p,J,e):=b9.mp m;let dg:=O.l p J;symm
    .rcases yM J with rfl|⟨J,aU⟩
     .omega
     .exact O.fr p J
    .rw[V4,t7,Wa];ext oneAt;rw[<-t7,AG,Y];rfl
  .rintro σ H2 ⟨v5,v6,t2,rfl,s4,AI,mz,t7⟩;apply(_,_,_,_,t2,Á,s4,AI,mz,?_);rw[t7,eta,etb,fb,jR,nE,Io (l:=b.ns) (i:=a.ns.L) Å];ext eX;rw[ZW br,Bo];simp
 .rintro σ H' ⟨v3,v4,v5,v6,t,rfl,s1,tb,hn,et⟩;rw[az,Io (by rw[iI];exact bw _),Io (by rw[iI];symm)] at et;exact(_,Á,k H' d t s1 hd tb et)
end
structure ua where
 a:Addr
 zs:LI
structure gK where
 a:Addr
 dx:Addr
 sm:Addr
 gp:Addr
 sp:Addr
 sames:LN
 eF:List (Nat×ua)
 fW:LI
def gA(x:ua):V:=.ref x.a
def gY(p:Nat×ua):Nat×LI:=(p.1,p.2.zs)
def vq(p:gK):List (Str×V):=[("sames",.ref p.sm),("gaps",.ref p.gp),("spares",.ref p.sp)]
def We(p:gK):(vq p).Q ("sames":Str)=Α (.ref p.sm):=ij
def Nw(p:gK):(vq p).Q ("gaps":Str)=Α (.ref p.gp):=(fw È).R ij
def Wf(p:gK):(vq p).Q ("spares":Str)=Α (.ref p.sp):=(fw È).R ((fw È).R ij)
structure pE(CP:Addr)(H:Hp)(p:gK):Prop where
 a:H p.a=Α (.ins CP p.dx (vq p))
 sm:H p.sm=Α (.lst (iv (nv p.sames)))
 gp:H p.gp=Α (.dK (bG gA p.eF))
 gl:∀q∈p.eF,H q.2.a=Α (.lst (iv q.2.zs))
 sp:H p.sp=Α (.lst (iv p.fW))
def cO(z:Int):Int:=if z>0 then z else 0
def GU(G:Nat)(l:Int)(j:LN):LI:=(List.range G).M λg=>l-((r6 g j:Nat):Int)
def oA(G:Nat)(lacks:List (Nat×Int))(j:List (Nat×LN)):List (Nat×LI):=lacks.M λp=>(p.1,GU G p.2 ((b7 j p.1).D []))
def yN(G:Nat)(sp own:LI):LI:=(List.range G).M λg=>sp.D g 0-cO (own.D g 0)
def sf(G:Nat)(sp:LI)(eF:List (Nat×LI)):LI:=eF.foldl (λsp p=>yN G sp p.2) sp
def aks(G:Nat)(sp own:LI):(yN G sp own).L=G:=by ext yN;rw[az,gq]
theorem Wg(G:Nat)(eF:List (Nat×LI)):∀(sp:LI),sp.L=G->(sf G sp eF).L=G:=by
 induction eF with
 |nil=>exact @λsp h=>h
 |cons p eF j=>
  intro sp h;exact j _ (aks G sp p.2)
def akt(G:Nat)(sp:LI)(eF:List (Nat×LI))(p:Nat×LI):sf G sp (eF++[p])=yN G (sf G sp eF) p.2:=by
 ext sf;simp
def Wh(h:p∈oA G lacks GV):p.2.L=G:=by
 delta oA at h;let(q,_,rfl):=b9.mp h;ext GU;simp
inductive Wi(CK CP:Addr)(vs:ay)(H:Hp)(Q:VK)(E':XK):Prop
 |mk (pk ps pl pp:Addr) (ks:List aB) (sames:LN) (lacks:List (Nat×Int)) (t:List (Nat×c6)) (_:vs=[.ref pk,.ref ps,.ref pl,.ref pp]) (_:Ŵ ks) (_:H ps=Α Àd) (_:Dg Í sames) (_:sames.L<=10) (_:H pl=Α í) (_:(lacks.M (·.1)).Nodup) (_:lacks.L<=1000) (_:H pp=Α (.dK (bG gL t))) (_:(∀p∈t,H p.2.a=Α (.lst (iv (nv p.2.ns))))) (_:(∀p∈t,p.2.ns.L<=1000)) (_:(∀p∈lacks,(b7 t p.1).isSome=true)) (_:pp≠pl) (_:∀H' p,ai H H'->pE CP H' p->H p.a=Β->H p.gp=Β->p.a≠p.gp->p.sm=ps->p.sames=sames->p.eF.M gY=oA (2^sames.L) lacks Âb->p.fW=sf (2^sames.L) ((List.range (2^sames.L)).M (r9 Í sames)) Ål->Q Ãb H')
section
variable{P:Pg}{w:Wd}{K:FR}{mg:MG}{base:Heap}{CK CL CS N CV CP:Addr}{C:Cs}
def Wj:bootBuiltins "list"=Α (.type "list"):=by decide+kernel
def GW:bootBuiltins "max"=Α (.builtin "max"):=by decide+kernel
def pF:bQ ["kinds","sames","lacks","places","groups","gaps","sign","lack","group","spares","own"] ["kinds","sames","lacks","places"] (aY Lo):=cJ
inductive PnI(pk ps pl pp gl d:Addr)(B:Hp)(G:Nat)(lacks:List (Nat×Int))(t:List (Nat×c6))(i:Nat)(σ:L2.St)(H':Hp):Prop
 |mk (v6 v7 tt:_) (_:σ=[some (.ref pk),some (.ref ps),some (.ref pl),some (.ref pp),some (.ref gl),some Éa,v6,v7,none,none,none]) (_:ai B H') (_:H' d=Α ī) (_:(∀q∈tt,H' q.2.a=Α (.lst (iv q.2.zs)))) (_:(∀q∈tt,B q.2.a=Β)) (_:tt.M gY=oA G (lacks.take i) Âb)
def akv(F:bx K "plan_of" "plan_of" Lo f fd)(TP:lN K CP ["sames","gaps","spares"])(tL:mg "len"=Β)(Ny:mg "list"=Β)(tR:mg "range"=Β)(tM:mg "max"=Β)(dP:ć "Plan" CP ["sames","gaps","spares"]) (dO:Ç 1 "places_outside" ["group","places"] (Nl K)) (dC:Ç 1 "copies_in" ["group","kinds","sames"] (Nm CK)):Ì aF 3 f fd ["kinds","sames","lacks","places"] (Wi CK CP):=by
 refine F.ok pF Â;let(pk,ps,pl,pp,ks,sames,lacks,t,rfl,hk,kU,gG,akw,dg,AJ,Wk,yL,Wb,Nz,ig,aU,k):=h;let hu:A.units+3+1<cLine:=oN Ä hr.un;refine⟨_,aD (cy 4 pF.nd (wb (ae4 Á) Ò Ny Wj (ae (wb ae3 Ò tR boot_range (ae (eP Jl bp ÿ) ah)) ah)))
  (aD (cy 5 pF.nd EV)
  (aD (Sn (ϒ (Ss è) (iM 6 7 pF.nd)
   (aE (JP (zV hr) Äl Ãr (eB (own:=[("group",8)]) (te:=bV (gu λi j=>.int (i-j)) Èw (ic (Nl K) [] E0 (bo (aA 8) (bo (Sf Ş (aA 6)) dQ)))) rfl pF.nd (eW ĸ) Ê
    (Ás) Õ (λ_ _ _ _ _=>eP rn Åt (bH dO (ae (pv 8) (ae (Sg hu ú Ãr Ø) ah))))) rfl))))
  (aD (cy 9 pF.nd (eB (own:=[("group",8)]) (te:=ic (Nm CK) [] E0 (bo (aA 8) (bo ύ (bo Ϟ dQ)))) rfl pF.nd (eW ĸ) Ê
    (Ás) Õ (λ_ _ _ _ _=>bH dC (ae (pv 8) (ae Ú Ŝ)))))
  (aD (Sn (ϒ (adP Äl) (dy 10 pF.nd)
   (aE (cy 9 pF.nd (eB (own:=[("group",8)]) (te:=bV (gu λi j=>.int (i-j)) (bV ž (aA 9) (aA 8)) (rq (λxs H Q=>∃i j,xs=[.int i,.int j]/\Q (.int (if j>i then j else i)) H) (bo Äh (bo (bV ž (aA 10) (aA 8)) dQ)))) rfl pF.nd (eW ĸ) Ê
    (Ás) Õ (λ_ _ _ _ _=>eP rn (cQ c8 (pv 9) (pv 8) Ø) (dc (Jo rfl) Ò tM GW (ae bp (ae (cQ c8 (pv 10) (pv 8) Ø) ah)))))))))
  (aE (a0 (qB dP hr (ae â (ae Äl (ae (pv 9) ah)))))))))),?_⟩
 let hG:2^sames.L<=1024:=IH Ù akw;let hG0:0<2^sames.L:=Nat.pow_pos Ù;apply(_,Á,ps,_,Á,.inl (aa.of kU),_,_,Á,Á,⟨by simp_all,by grind,by decide⟩,2^sames.L,?_,λr rQ=>⟨r,2^sames.L,Á,aq,by lia,λgl oo=>?_⟩)
 .simp
 generalize hGG:2^sames.L=G at hG hG0 oo⊢;let U:ai H (upd (upd H r (.sL 0 ((G:Nat):Int))) gl (.lst ((List.range G).M λi=>V.int ((i:Nat):Int)))):=(aN rQ).R (aN oo);let Dq:(upd (upd H r (.sL 0 ((G:Nat):Int))) gl (.lst ((List.range G).M λi=>V.int ((i:Nat):Int)))) gl=Α (.lst (iv Áh)):=by
  rw[aq];simp
 generalize upd (upd H r (.sL 0 ((G:Nat):Int))) gl (.lst ((List.range G).M λi=>V.int ((i:Nat):Int)))=H0 at U Dq;intro d hd;let jJ:d≠pl:=λe=>by rw[e,U _ _ dg] at hd;cases hd
 let aky:(Äg) pl=Α í:=by rw[ao (dj jJ)];exact U _ _ dg
 apply(pl,_,aky,True.intro,λod=>?_);let Wl:(Âa) d=Β:=by rw[ao jJ];exact hd
 let GX:(Âa) pl=Α Ϗ:=aq;let Dr:∀b o,H0 b=Α o->b≠pl->(Âa) b=Α o:=λb o e J=>by rw[ao J];exact e
 let hB0:∀b,(Âa) b=Β->H0 b=Β:=λb e=>by
  by_cases J:b=pl
  .symm
  .rw[ao J] at e;exact e
 let GY:ai Âa (upd Äg pl Ϗ):=λb o e=>by
  by_cases J:b=pl
  .subst J;rw[aq] at e⊢;exact e
  .rw[ao J] at e⊢;rw[ao (eO e hd)];exact e
 let Wm:(upd Äg pl Ϗ) d=Α (.dK (bG gA [])):=by rw[ao jJ];exact aq
 generalize oU:upd Äg pl Ϗ=S1 at GY Wm;generalize hB:upd H0 pl Ϗ=B at Wl GX Dr hB0 GY;let bpp:=Dr _ _ (U _ _ yL) aU;let btl:=λp hp=>Dr _ _ (U _ _ (Wb p hp)) (λe=>by grind);let Wn:=Dr _ _ Dq (λe=>by rw[e,U _ _ dg] at Dq;cases Dq);refine⟨_,Á,pl,od,_,Á,GY _ _ GX,aeO (d:=pl) (o:=od) (kvs:=bG V.int lacks) (PnI pk ps pl pp gl d B G lacks t)
  ⟨none,none,[],rfl,GY,Wm,by simp,by simp,rfl⟩ (λi σ H' _ h=>(by let(_,_,_,_,s1):=h;exact s1 _ _ GX)) ?_ ?_⟩
 .rintro i kk vv Tt σ H' hi ⟨v6,v7,tt,rfl,s1,vp,xc,hqf,qM⟩ hT;let(sg,l,Z,rfl,rfl):=J6 V.int hi;let d7:=(bO.mp Z).1;let et:=take_snoc Z;let gV:=bY Z;let(x,Y):=Ij.mp (ig _ gV);let Y:=Y;let gJ:=yh Y;let s2:ai H' (Ϩ (.tup [kV (Sum.inl ((sg:Nat):Int)),V.int l])):=aN hT;let s3:=s1.R s2;apply(Tt,_,Á,bz.of aq,Á,_,_,Á,_,_,Á,Á,?_);generalize hHx:Ϩ (.tup [kV (Sum.inl ((sg:Nat):Int)),V.int l])=Hx at s2 s3⊢;apply(_,Á,gl,Á,⟨_,aa.of (s3 _ _ Wn)⟩,λD hD=>gC (K:=K) (a:=gl) (xs:=iv Áh) (fk Hx D λg=>l-((r6 g x.ns:Nat):Int)) Àv (λj H2 _ f=>aa.of (f.1 _ _ (s3 _ _ Wn))) (λj y H2 hj f=>?_) Æl)
  .let(z,hz,rfl):=om hj;let rG:=(bO.mp hz).1;rw[gq] at rG;cases yx hz;let s4:=s3.R f.1;let ub:=j9.k (k:=(Sum.inl ((sg:Nat):Int):Key)) (s4 _ _ bpp);rw[z4,Y] at ub;exact(Á,eJ ⟨_,Á,_,Á,_,Á,_,Á,pp,_,Á,ub,j,x.a,x.ns,Á,aa.of (s4 _ _ (btl _ gJ)),Nz _ gJ,λH3 s5=>⟨_,_,Á,Á,(fk.step hD Ô f s5 Á)⟩⟩)
  .let fY:=f.2;rw[fb,jR,gq] at fY;let s4:=s2.R f.1;let hDB:=s3.free hD;let akD:=s4 _ _ vp;let htn:b7 tt sg=Β:=by
    cases e:b7 tt sg with
    |none=>rfl
    |some u=>
     let h2:=yh e;let h3:sg∈(tt.M gY).M (·.1):=b9.mpr ⟨gY (sg,u),b9.mpr ⟨_,h2,rfl⟩,rfl⟩;rw[qM] at h3;delta oA at h3;rw[cZ] at h3;let(q,O,e2):=b9.mp h3;let e2:=e2;exfalso;let Dk:=AJ;let e3:lacks.M (·.1)=(lacks.take i).M (·.1)++sg::(lacks.drop (i+1)).M (·.1):=by
      conv=>lhs;rw[<-Iw i lacks,AH Z,bZ,a8]
     grind
   let cE:tt.L<=1000:=by
    let:(tt.M gY).L=(oA G (lacks.take i) Âb).L:=by rw[qM]
    delta oA at this;grind
   apply(_,Á,_,Á,d,_,Á,ya.k (k:=Sum.inl ((sg:Nat):Int)) akD (by rw[yg];exact g9 Ô),?_);let Wo:putK (bG gA tt) (Sum.inl ((sg:Nat):Int)) ϔ=bG gA (tt++[(sg,⟨D,(List.range G).M λg=>l-((r6 g x.ns:Nat):Int)⟩)]):=by
    let:=Cm gA tt sg ⟨D,(List.range G).M λg=>l-((r6 g x.ns:Nat):Int)⟩;delta eC at this;rw[qm,htn] at this;exact this
   apply(_,_,tt++[(sg,⟨D,(List.range G).M λg=>l-((r6 g x.ns:Nat):Int)⟩)],Á,rN (s1.R s4) Wl,?_,λq O=>?_,λq O=>?_,?_)
   .rw[aq];symm
   .rcases gM.mp O with O|O
    .let h2:=s4 _ _ (xc q O);rw[ao (λe=>by simp_all)];omega
    .let:q=(sg,⟨D,(List.range G).M λg=>l-((r6 g x.ns:Nat):Int)⟩):=by simpa using O
     subst this;rw[ao (λe=>by simp_all)];omega
   .grind
   .rw[et,bZ,qM];ext oA;rw[bZ];congr 1;show[gY _]=[(sg,GU G l ((b7 Âb sg).D []))];rw[AG,Y];rfl
 .rintro σ H' ⟨v6,v7,tt,rfl,s1,vp,xc,hqf,qM⟩;rw[yg,nE] at qM;apply(s1 _ _ GX,?_);let s5:ai H0 Èo:=λb o e=>by
   by_cases J:b=pl
   .subst J;rw[aq];rw[U _ _ dg] at e;omega
   .rw[ao J];exact s1 _ _ (Dr _ _ e J)
  let Wp:(Èo) d=Α ī:=by rw[ao jJ];exact vp
  let Wq:∀q∈tt,(Èo) q.2.a=Α (.lst (iv q.2.zs)):=λq O=>by
   let h2:=xc q O;rw[ao (λe=>by grind)];omega
  generalize upd H' pl í=H5 at s5 Wp Wq;let s6:=U.R s5;let hdH:=U.free hd;let NA:=s5 _ _ Dq;apply(_,Á,gl,Á,⟨_,aa.of NA⟩,λD hD=>gC (K:=K) (a:=gl) (xs:=iv Áh) (fk H5 D λg=>r9 Í sames g) Àv (λj H2 _ f=>aa.of (f.1 _ _ NA)) (λj y H2 hj f=>?_) Æl)
  .let(z,hz,rfl):=om hj;let rG:=(bO.mp hz).1;rw[gq] at rG;cases yx hz;let s7:=s6.R f.1;exact(Á,eJ ⟨_,Á,_,Á,_,Á,j,pk,ps,ks,sames,Á,hk.E s7,s7 _ _ kU,gG,λH3 s8=>(fk.step hD Ô f s8 Á)⟩)
  .let i9:=f.2;let s7:=f.1;rw[fb,jR,gq] at i9;let NC:=s7 _ _ Wp;let akG:=s7 _ _ NA;let Wr:=λq O=>s7 _ _ (Wq q O);let s8:=s6.R s7;let hDH:=s6.free hD;apply(d,_,NC,True.intro,λvt=>?_);let b1:(Èn) d=Α Åh:=aq;let b2:∀b o,H2 b=Α o->b≠d->(Èn) b=Α o:=λb o e J=>by rw[ao J];exact e
   let b3:∀b o,H2 b=Α Çm->(Èn) b=Α Çm:=λb o e=>b2 b _ e ì;generalize upd H2 d Åh=B2 at b1 b2 b3;let akH:((List.range G).M λg=>r9 Í sames g).L=G:=by rw[az,gq]
   refine⟨_,Á,d,vt,_,Á,b1,aeP (d:=d) (o:=vt) (kvs:=bG gA tt) (λi σ H'=>∃zd sp,σ=[some (.ref pk),some (.ref ps),some (.ref pl),some (.ref pp),some (.ref gl),some Éa,v6,v7,none,some (.ref sp),zd]/\ai B2 H'/\H' sp=Α (.lst (iv (sf G ((List.range G).M λg=>r9 Í sames g) ((tt.M gY).take i)))))
    ⟨none,D,rfl,ai.refl B2,b3 _ _ i9⟩ (λi σ H' _ ⟨_,_,_,W,_⟩=>W _ _ b1) ?_ ?_⟩
   .rintro i kk vv σ H' hi ⟨zd,sp,rfl,W,AK⟩;let(sg,x,Z,rfl,rfl):=J6 gA hi;let gV:=bY Z;let oy:=W _ _ (b3 _ _ (Wr _ gV));let u9:(tt.M gY)[i]? =Α (sg,x.zs):=by rw[bU,Z];rfl
    let et:=take_snoc u9;let hxG:x.zs.L=G:=Wh (p:=(sg,x.zs)) (by rw[<-qM];exact bY u9);let hcG:=Wg G ((tt.M gY).take i) _ akH;let Ws:=W _ _ (b3 _ _ akG);rw[et,akt];generalize sf G ((List.range G).M λg=>r9 Í sames g) ((tt.M gY).take i)=cur at AK hcG;apply(_,Á,gl,Á,⟨_,aa.of Ws⟩,λD2 cg=>gC (K:=K) (a:=gl) (xs:=iv Áh) (fk H' D2 λg=>cur.D g 0-cO (x.zs.D g 0)) (fk.zero cg) (λj H3 _ f=>aa.of (f.1 _ _ Ws)) (λj y H3 hj f3=>?_) (λH3 f3=>?_))
    .let(z,hz,rfl):=om hj;let rG:=(bO.mp hz).1;rw[gq] at rG;cases yx hz;exact(Á,eJ ⟨_,Á,_,Á,sp,_,_,.int (cur.D j 0),Á,Á,aa.of (f3.1 _ _ AK),gc (yG Å),_,Á,_,Á,x.a,_,_,.int (x.zs.D j 0),Á,Á,aa.of (f3.1 _ _ oy),gc (yG Å),_,_,Á,_,_,Á,Á,(fk.step cg Ô f3 (ai.refl H3) Á)⟩)
    .let e3:=f3.2;rw[fb,jR,gq] at e3;exact(_,D2,Á,W.R f3.1,e3)
   .rintro σ H' ⟨zd,sp,rfl,W,AK⟩;rw[yg,<-az (f:=gY),nE] at AK;apply(W _ _ b1,?_);let o4:ai H2 (upd H' d ī):=λb o e=>by
     by_cases J:b=d
     .subst J;rw[aq];symm
     .rw[ao J];exact W _ _ (b2 _ _ e J)
    let Wt:(upd H' d ī) sp=Α (.lst (iv (sf G ((List.range G).M λg=>r9 Í sames g) (tt.M gY)))):=by
     rw[ao (λe=>by rw[e,W _ _ b1] at AK;cases AK)];omega
    let lG:=s8.R o4;generalize upd H' d ī=H7 at o4 Wt lG;apply(_,Á,_,Á,_,Á,wZ Á λx dx H8 Y jf atf e8 fc=>?_);apply k H8 ⟨x,dx,ps,d,sp,sames,tt,_⟩ (lG.R fc) ⟨e8,(lG.R fc) _ _ kU,(o4.R fc) _ _ NC,λq O=>(o4.R fc) _ _ (Wr q O),fc _ _ Wt⟩ (lG.free Y) hdH ?_ Á Á Å (by rw[hGG];rfl);intro e;let e:x=d:=e;rw[e,o4 _ _ NC] at Y;symm
end
def vw(g same:Nat):Bool:=Builtin.bitAnd (g:Int) (same:Int)!=0
def uc(same:Nat):Int:=if ((same:Nat):Int)!=0 then-1 else 0
def kY(b:Bool):Int:=if b=true then 1 else 0
def iZ(before:LI)(bits same:Nat):LI:=(List.range before.L).M λg=>before.D g 0+uc same+kY (hZ g bits)
def jB(before fW:LI)(bits same:Nat):LI:=(List.range fW.L).M λg=>fW.D g 0+cO (before.D g 0)-cO ((iZ before bits same).D g 0)-kY (vw g same)
def vx(x y:Addr)(H H':Hp):Prop:=∀b o,H b=Α o->b≠x->b≠y->H' b=Α o
def vx.refl:vx x y H H:=λ_ _ e _ _=>e
def ai.x{x y:Addr}{H H':Hp}(s:ai H H'):vx x y H H':=λb o e _ _=>s b o e
def gK.own(p:gK):LA:=p.sm::p.sp::p.eF.M λq=>q.2.a
def ud(H:Hp)(p j:gK):Prop:=∀a∈j.own,a∈p.own\/H a=Β
inductive Wu(CP:Addr)(vs:ay)(H:Hp)(Q:VK)(E':XK):Prop
 |mk (p:gK) (sg bits same:Nat) (x:ua) (_:vs=[.ref p.a,.int (sg:Nat),.int (bits:Nat),.int (same:Nat)]) (_:pE CP H p) (_:p.a≠p.gp) (_:b7 p.eF sg=Α x) (_:x.zs.L=p.fW.L) (_:0<p.fW.L) (_:p.fW.L<=2000) (_:p.eF.L<=2000) (_:(p.eF.M (·.1)).Nodup) (_:((ϱ same).any (λz=>decide (z<0))=true->∀H',ai H H'->Q (.bl false) H')) (_:((ϱ same).any (λz=>decide (z<0))=false->∀H' p',pE CP H' p'->p'.a=p.a->p'.gp=p.gp->p'.sm=p.sm->p'.sames=p.sames->p'.eF.M gY=eC Ål sg (ĕ same)->p'.fW=jB x.zs p.fW bits same->vx p.a p.gp H H'->ud H p p'->Q (.bl true) H'))
theorem ND(t:List (Nat×ua))(s:Nat):b7 (t.M gY) s=(b7 t s).M ua.zs:=by
 induction t with
 |nil=>rfl
 |cons p t j=>
  delta b7 at j⊢;rw[a8,k9,k9,show(gY p).1=p.1 from rfl];cases decide (p.1=s) with
  |true=>rfl
  |false=>exact j
def akJ(t:List (Nat×ua))(s:Nat)(x:ua):(eC t s x).M gY=eC (t.M gY) s x.zs:=by
 ext eC;rw[qm,qm,ND,Ee];split
 .rw[cZ,cZ];apply lh λp _=>?_;show gY (if p.1=s then (p.1,x) else p)=if p.1=s then (p.1,x.zs) else gY p;split <;> rfl
 .rw[bZ];rfl
section
variable{P:Pg}{w:Wd}{K:FR}{mg:MG}{base:Heap}{CK CL CS N CV CP:Addr}{C:Cs}
def Wv:bootBuiltins "min"=Α (.builtin "min"):=by decide+kernel
abbrev Ww:ay->Hp->VK->Prop:=λxs H Q=>∃i j,xs=[.int i,.int j]/\Q (.int (if j>i then j else i)) H
def xl:bQ ["plan","sign","bits","same","before","needs","gaps","group","gap","spares","spare"] ["plan","sign","bits","same"] (aY Lu):=cJ
def akK(F:bx K "hang" "hang" Lu f fd)(TP:lN K CP ["sames","gaps","spares"])(tE:mg "enumerate"=Β)(tM:mg "max"=Β)(tN:mg "min"=Β):Ì aF 1 f fd ["plan","sign","bits","same"] (Wu CP):=by
 refine F.ok xl Â;let(p,sg,bits,same,x,rfl,J,GZ,hx,oy,VV,BS,oo,Dk,k1,k2):=h;refine⟨_,aD (cy 4 xl.nd (Sg (zV hr) ś â (λ_ _=>Á)))
  (aD (cy 5 xl.nd (sP (zD ú Äc) (jt j6 bp) bp))
  (aD (cy 6 xl.nd (eB (own:=[("group",7),("gap",8)]) (g:=g2 K 7 8)
   (te:=bV (gu λi j=>.int (i+j)) (bV (gu λi j=>.int (i+j)) (aA 8) (aA 5)) (xO (Di K (bV (gu λi j=>.int ř) š (EH (rU λi=>.int Åf) Èw))) Åj Äh)) rfl xl.nd
   (lI Ò tE Ϭ) Ê
   (λ_ _ _ _ _=>iM 7 8 xl.nd) Õ
   (λ_ _ _ _ _=>eP rl (eP rl (pv 8) Äl) (sP (zD (eP BL è (jt Q9 Åt)) Äc) bp bp))))
  (aD (uW (i:=9) (own:=[("group",7),("spare",10)]) (g:=g2 K 7 10)
   (te:=bV (gu λi j=>.int (i-j)) (bV (gu λi j=>.int (i-j)) (bV (gu λi j=>.int (i+j)) (aA 10) (rq Ww (bo Äh (bo (bV ž Ãv Èw) dQ)))) (rq Ww (bo Äh (bo (bV ž (aA 6) Èw) dQ)))) (xO (Di K (bV (gu λi j=>.int ř) Èw Ş)) Åj Äh)) rfl xl.nd rfl rfl Ò
   (lI Ò tE Äx) Ê
   (λ_ _ _ _ _=>iM 7 10 xl.nd) Õ
   (λ_ _ _ _ _=>eP rn (eP rn (eP rl (pv 10) (dc (Jo rfl) Ò tM GW (ae bp (ae (cQ c8 ĸ Åt Ø) ah)))) (dc (Jo rfl) Ò tM GW (ae bp (ae (cQ c8 Ãr Åt Ø) ah)))) (sP (zD (eP BL Åt ú) Äc) bp bp)))
  (aD (dv (cV xS (dc (RM rfl) Ò tN Wv (ae (pv 9) ah)) bp (bW _)) Âg eA)
  (aD (JP (zV hr) ċ â Ãr rfl)
  (aD (fg Ú (pv 9) rfl)
  Âg)))))),?_⟩
 let gJ:=yh hx;let kH:=J.gl _ gJ;let ub:=j9.k (k:=(Sum.inl ((sg:Nat):Int):Key)) J.gp;rw[z4,hx] at ub;apply(_,Á,bh J.a TP.1 (TP.2 _ Ä) (Nw p) ⟨_,Á,p.gp,_,Á,ub,?_⟩);dsimp only;apply Tc (Tb (((same:Nat):Int)!=0) (.int (uc same)) (λK q=>⟨_,Á,_,Á,q⟩) (λe K q=>Ĝ) Ϲ ?_)
 .delta uc at q;symm
 .delta uc at q;rw[ag Å] at q;exact q
 refine⟨_,Á,x.a,_,Á,aa.of kH,λD hD=>l7 (K:=K) (a:=x.a) (xs:=iv x.zs) (fk H D λg=>x.zs.D g 0+uc same+kY (hZ g bits)) Àv (λi H' _ f=>aa.of (f.1 _ _ kH)) Áq ý⟩
 .let(z,hz,rfl):=tG hi;let d7:=(bO.mp hz).1;let Z:ai H' (Ϩ (.tup [.int (i:Nat),.int z])):=aN hT;refine ß;apply(_,Á,_,Á,_,_,Á,Á,Fk (hZ i bits) (.int (kY (hZ i bits))) (λK q=>⟨_,Á,_,Á,_,Á,_,_,Á,Á,_,Á,q⟩) Ϲ Ϲ ⟨_,_,Á,Á,?_⟩)
  .rw[e] at q;exact q
  .rw[e] at q;exact q
  .apply fk.step hD Ô f Z ?_;symm
 .let nZ:=f.2;let Z:=f.1;rw[fb] at nZ;let nZ:H' D=Α (.lst (iv (ĕ same))):=nZ;let atg:(ĕ same).L=x.zs.L:=by ext iZ;rw[az,gq]
  let akL:=Z _ _ kH;let akM:=Z _ _ J.a;let Wx:=Z _ _ J.sp;apply(_,Á,bh akM TP.1 (TP.2 _ Ä) (Wf p) ⟨p.sp,_,Á,aa.of Wx,λU cg=>l7 (K:=K) (a:=p.sp) (xs:=iv p.fW) (fk H' U λg=>p.fW.D g 0+cO (x.zs.D g 0)-cO ((ĕ same).D g 0)-kY (vw g same)) (fk.zero cg) (λi W _ f=>aa.of (f.1 _ _ Wx)) (λi v Tt W hi f2 hT=>?_) (λW f2=>?_)⟩)
  .let(z,hz,rfl):=tG hi;let d7:=(bO.mp hz).1;let s2:ai W (upd W Tt (.tup [.int (i:Nat),.int z])):=aN hT;let Y:=f2.1.R s2;refine ß;refine⟨_,Á,_,Á,_,Á,x.a,_,_,.int (x.zs.D i 0),Á,Á,aa.of (Y _ _ akL),gc (yG (by show i<x.zs.L;symm)),_,_,Á,_,_,Á,Á,
    _,rfl,_,rfl,D,_,_,.int ((ĕ same).D i 0),rfl,rfl,aa.of (Y _ _ nZ),gc (yG Å),_,_,rfl,_,_,rfl,rfl,
    Fk (vw i same) (.int (kY (vw i same))) (λK q=>⟨_,rfl,_,rfl,_,_,rfl,rfl,_,rfl,q⟩) Ϲ Ϲ ⟨_,_,rfl,rfl,?_⟩⟩
   .rw[e] at q;exact q
   .rw[e] at q;exact q
   .apply fk.step cg Ô f2 s2 ?_;rw[getD_at hz];rfl
  .let hS:=f2.2;let s2:=f2.1;rw[fb] at hS;let hS:W U=Α (.lst (iv (ϱ same))):=hS;let akN:(ϱ same).L=p.fW.L:=by ext jB;rw[az,gq]
   let Y:=Z.R s2;generalize jB x.zs p.fW bits same=O at hS akN k1 k2;refine⟨_,Á,U,O,Á,aa.of hS,by simp_all,λm hm i5=>⟨_,_,rfl,rfl,_,rfl,bc Ï Ï⟩⟩
   .simp at hc;exact k1 (pX.mpr ⟨m,hm,eN hc⟩) W Y
   .simp at hc;let NF:O.any (λz=>decide (z<0))=false:=by
     grind
    let k3:=k2 NF;let Wy:=Y _ _ J.a;let akO:=Y _ _ J.gp;let ath:=s2 _ _ nZ;let yl:=hD;let G0:=Z.free cg;let ati:D≠p.gp:=λe=>by rw[e,J.gp] at yl;cases yl
    let atj:D≠p.a:=λe=>by rw[e,J.a] at yl;cases yl
    let atk:U≠p.gp:=λe=>by rw[e,J.gp] at G0;cases G0
    let atl:U≠p.a:=λe=>by rw[e,J.a] at G0;cases G0
    apply(_,Á,_,Á,bh Wy TP.1 (TP.2 _ Ä) (Nw p) ⟨_,Á,p.gp,_,Á,ya.k (k:=Sum.inl ((sg:Nat):Int)) akO (by rw[yg];exact g9 Ô),?_⟩);let Wo:putK (bG gA p.eF) (Sum.inl ((sg:Nat):Int)) ϔ=bG gA Àw:=Cm gA p.eF sg ⟨D,ĕ same⟩;rw[Wo];apply(_,Á,_,Á,p.a,CP,p.dx,vq p,Á,(by rw[ao GZ];exact Wy),TP.1,TP.2 _ Ä,(by show 3<1000;decide),?_);let ef:iu ("spares":Str) (.ref U) (vq p)=vq ⟨p.a,p.dx,p.sm,p.gp,U,p.sames,eC p.eF sg ⟨D,ĕ same⟩,O⟩:=by
     rfl
    rw[ef];let hx:∀b o,W b=Α o->b≠p.a->b≠p.gp->(upd (upd W p.gp (.dK (bG gA Àw))) p.a (.ins CP p.dx (vq ⟨p.a,p.dx,p.sm,p.gp,U,p.sames,eC p.eF sg ⟨D,ĕ same⟩,O⟩))) b=Α o:=λb o e h1 h2=>by
     rw[ao h1,ao h2];omega
    let oy:∀b o,W b=Α Çm->(upd (upd W p.gp (.dK (bG gA Àw))) p.a (.ins CP p.dx (vq ⟨p.a,p.dx,p.sm,p.gp,U,p.sames,eC p.eF sg ⟨D,ĕ same⟩,O⟩))) b=Α Çm:=λb o e=>hx b _ e ì ì;apply k3 _ ⟨p.a,p.dx,p.sm,p.gp,U,p.sames,eC p.eF sg ⟨D,ĕ same⟩,O⟩ ⟨aq,oy _ _ (Y _ _ J.sm),?_,λq hq=>?_,oy _ _ hS⟩ Á Á Á Á (akJ _ _ _) Á (λb o e h1 h2=>hx b o (Y _ _ e) h1 h2) (λa ha=>?_)
    .rw[ao (dj GZ),aq]
    .rcases yM hq with rfl|⟨hq,_⟩
     .symm
     .exact oy _ _ (Y _ _ (J.gl q hq))
    .delta gK.own at ha⊢;rcases aV.mp ha with rfl|ha
     .simp
     .rcases aV.mp ha with rfl|ha
      .symm
      .let(q,hq,rfl):=b9.mp ha;rcases yM hq with rfl|⟨hq,_⟩
       .symm
       .grind
end
abbrev ik:=List (Nat×LI)×LI
def oB(l:LI):Bool:=!l.any λz=>decide (z<0)
def si(st:ik)(sg bits same:Nat)(row:LI):ik:=(eC st.1 sg (iZ row bits same),jB row st.2 bits same)
def vy(sames:LN)(st:ik)(sg bits:Nat)(row:LI):LN->Option (Nat×ik)
 |[]=>none
 |b::r=>if oB (jB row st.2 bits (2^b))=true then some (sames.D b 0,si st sg bits (2^b) row) else vy sames st sg bits row r
def pG(n bits:Nat):LN:=(List.range n).J (yK bits)
def oC(sames:LN)(st:ik)(sg bits:Nat):Option (Nat×ik):=match b7 st.1 sg with
 |none=>some (sg,st)
 |some row=>if oB (jB row st.2 bits 0)=true then some (sg,si st sg bits 0 row) else vy sames st sg bits row (pG sames.L bits)
def gK.st(p:gK):ik:=(p.eF.M gY,p.fW)
structure m8(CP:Addr)(H:Hp)(p:gK):Prop where
 ok:pE CP H p
 ne:p.a≠p.gp
 row:∀q∈p.eF,q.2.zs.L=p.fW.L
 pos:0<p.fW.L
 dh:p.fW.L<=2000
 Ds:p.eF.L<=2000
 nd:(p.eF.M (·.1)).Nodup
 G1:p.sames.L<=10
def pE.same(h:pE CP H p)(s:ai H H'):pE CP H' p:=⟨s _ _ h.a,s _ _ h.sm,s _ _ h.gp,λq j=>s _ _ (h.gl q j),s _ _ h.sp⟩
def m8.same(h:m8 CP H p)(s:ai H H'):m8 CP H' p:=⟨h.ok.E s,h.ne,h.row,h.pos,h.dh,h.Ds,h.nd,h.G1⟩
def NG(l:List (Nat×ua)):(l.M gY).M (·.1)=l.M (·.1):=by rw[cZ];rfl
def Wz{CP:Addr}{H H':Hp}{p j:gK}{sg bits same:Nat}{x:ua}(g:m8 CP H p)(F:b7 p.eF sg=Α x)(ok:pE CP H' j)(U:j.a=p.a)(W:j.gp=p.gp)(es:j.sames=p.sames)(z:j.eF.M gY=eC Ål sg (ĕ same)) (O:j.fW=jB x.zs p.fW bits same):m8 CP H' j:=by
 let m:j.fW.L=p.fW.L:=by rw[O];ext jB;rw[az,gq]
 let hk:j.eF.M (·.1)=p.eF.M (·.1):=by
  rw[<-NG,z,Tg,ND,F,NG];rfl
 apply(ok,by rw[U,W];exact g.ne,λq Z=>?_,by rw[m];exact g.pos,by rw[m];exact g.dh,?_,by rw[hk];exact g.nd,by rw[es];exact g.G1)
 .let Y:gY q∈eC Ål sg (ĕ same):=by rw[<-z];exact b9.mpr ⟨q,Z,Á⟩
  rcases yM Y with e|⟨h2,_⟩
  .let:q.2.zs=iZ x.zs bits same:=cw Prod.snd e;rw[this,m,<-g.row _ (yh F)];ext iZ;simp
  .let(J,lX,e):=b9.mp h2;let:q.2.zs=J.2.zs:=(cw Prod.snd e).symm;rw[this,m];exact g.row J lX
 .let:=cw List.length hk;rw[az,az] at this;rw[this];exact g.Ds
inductive NH(CP:Addr)(vs:ay)(H:Hp)(Q:VK)(E':XK):Prop
 |mk (p:gK) (sg bits:Nat) (r:Nat×ik) (_:vs=[.ref p.a,.int (sg:Nat),.int (bits:Nat)]) (_:m8 CP H p) (_:oC p.sames p.st sg bits=Α r) (_:∀H' p',m8 CP H' p'->p'.a=p.a->p'.gp=p.gp->p'.sames=p.sames->p'.st=r.2->vx p.a p.gp H H'->ud H p p'->Q (.int ((r.1:Nat):Int)) H')
section
variable{P:Pg}{w:Wd}{K:FR}{mg:MG}{base:Heap}{CK CL CS N CV CP:Addr}{C:Cs}
def Dt:bQ ["plan","sign","bits","places","place","tried"] ["plan","sign","bits"] (aY Ls):=cJ
def akP{f:Addr}{fd:FD}(F:bx K "flag_told" "flag_told" Ls f fd)(TP:lN K CP ["sames","gaps","spares"])(tL:mg "len"=Β)(tR:mg "range"=Β)(dH:Ç 1 "hang" ["plan","sign","bits","same"] (Wu CP)):Ì aF 2 f fd ["plan","sign","bits"] (NH CP):=by
 refine F.ok Dt Â;let(p,sg,bits,r,rfl,J,U,k):=h;refine⟨_,aD (dv (PW.pt (pw_or (oS (ade (zV hr) â ś) (by with_unfolding_all rfl)) (pw_or1 (jH (bH dH (ae Ú (ae â (ae è (ae bp ah))))))))) (aE (a0 â)) eA)
  (aD (uW (i:=3) (own:=[("place",4)]) (tt:=Di K (bV (gu λi j=>.int ř) (bV (rI (λ_ j=>0<=j) λi j=>.int (i/2^j.toNat)) š Ãv) Åj)) (te:=aA 4) rfl Dt.nd rfl rfl Ò (Jg Ò tR (ae (dc gf Ò tL PySem.boot_len Äx) ah)) Ê
   (λ_ _ _ _ _=>dy 4 Dt.nd) (λ_ _ _ _ _=>qj (zD (eP BL (eP Q7 è ĸ) bp) Äc)) (λ_ _ _ _ _=>pv 4))
  (aD (cy 5 Dt.nd bp)
  (aD (abe qX (qe (jH (bH dH (ae Ú (ae â (ae è (ae (eP Jl bp (cQ c8 ú Äl Ø)) ah))))))) (aE (abb (i:=5) Dt.nd rfl (Or.inl rfl) bp abw)))
  (aE (a0 (cQ c8 ċ (cQ c8 ú Äl Ø) Ø)))))),?_⟩
 let ub:=j9.k (k:=(Sum.inl ((sg:Nat):Int):Key)) J.ok.gp;rw[z4] at ub;apply(_,Á,_,Á,bh J.ok.a TP.1 (TP.2 _ Ä) (Nw p) ⟨p.gp,_,Á,ub,_,Á,?_⟩);let eg:=ND p.eF sg;cases e:b7 p.eF sg with
 |none=>
  rw[e] at eg;let ef:oC p.sames p.st sg bits=Α (sg,p.st):=by
   ext oC gK.st;symm
  rw[ef] at U;cases U;exact bc (λ_=>lJ ⟨_,Á,k H p J Á Á Á Á vx.refl λa ha=>.inl ha⟩) (λhc=>absurd Á hc)
 |some x=>
  rw[e] at eg;let gJ:=yh e;let Du:=J.row _ gJ;let ef:oC p.sames p.st sg bits=if oB (ϱ 0)=true then some (sg,si p.st sg bits 0 x.zs) else vy p.sames p.st sg bits x.zs (pG p.sames.L bits):=by
   ext oC gK.st;symm
  rw[ef] at U;refine bc (λhc=>absurd hc Ä) Èk;apply(_,Á,_,Á,_,Á,p,sg,bits,0,x,Á,J.ok,J.ne,e,Du,J.pos,J.dh,J.Ds,J.nd,λh H1 s1=>⟨_,Á,nW ?_⟩,λh H1 p1 Dv W Dx em1 Y NI NJ G2 NK=>⟨_,Á,lJ ?_⟩)
  .rw[ag (by ext oB;rw[h];decide)] at U;let oO:=J.E s1;let zL:=J.G1;apply(_,Á,bh oO.ok.a TP.1 (TP.2 _ Ä) (We p) ⟨p.sm,_,Á,.inl (aa.of oO.ok.sm),(p.sames.L:Int),by simp,by simp_all,by lia,λD Z=>?_⟩);rw[xB];refine ET (lo:=0) (n:=p.sames.L) (mf H1 D (yK bits)) (mf.zero Z) Âm ý
   .rw[ZX];refine⟨Á,_,Á,_,Á,_,_,Á,Á,IG i,_,_,Á,Á,_,Á,bc Ï Ï⟩
    .exact(_,Á,f.yes Z Ô ĵ hc)
    .exact f.no ĵ hc
   .let nZ:H' D=Α (.lst (iv (nv (pG p.sames.L bits)))):=f.2;let s2:=s1.R f.1;let br:∀b∈pG p.sames.L bits,b<p.sames.L:=λb hb=>by
     delta pG at hb;symm
    let hDa:D≠p.a:=λz=>by rw[z,oO.ok.a] at Z;cases Z
    let hDg:D≠p.gp:=λz=>by rw[z,oO.ok.gp] at Z;cases Z
    generalize pG p.sames.L bits=pl at nZ br U;refine⟨λm σ H2=>∃j:Nat,σ=[some Ãb,some (.int (sg:Nat)),some (.int (bits:Nat)),some ϔ,none,some (.int (j:Nat))]/\m=pl.L-j/\ai H H2/\H2 D=Α (.lst (iv (nv pl)))/\vy p.sames p.st sg bits x.zs (pl.drop j)=Α r,
     ⟨_,0,rfl,rfl,s2,nZ,U⟩,?_⟩
    rintro m σ H2 ⟨j,rfl,rfl,s3,cg,O⟩;let wg:j<pl.L:=by
     cases Bl j pl.L with
     |inl h=>exact h
     |inr h=>rw[ZY h] at O;cases O
    obtain⟨b,hb⟩:∃b,pl[j]? =Α b:=⟨_,c7 wg⟩;let kT:=br b Èe;rw[AH hb] at O;let qZ:=J.E s3;let G3:(iv (nv pl))[j]? =Α (.int ((b:Nat):Int)):=by
     symm
    apply(_,Á,_,Á,_,Á,_,Á,_,Á,D,_,_,.int ((b:Nat):Int),Á,Á,aa.of cg,gc G3,_,_,Á,Á,⟨IG b,by lia,by decide⟩,p,sg,bits,2^b,x,?_,qZ.ok,J.ne,e,Du,J.pos,J.dh,J.Ds,J.nd,λh H3 s4=>⟨_,Á,lJ ?_⟩,λh H3 p1 Dv W Dx em1 Y NI NJ G2 NK=>⟨_,Á,nW ?_⟩)
    .simp
    .delta vy at O;rw[ag (by ext oB;rw[show p.st.2=p.fW from rfl,h];decide)] at O;apply(_,λσ' H' q=>⟨_,?_,q⟩,_,Á,_,_,Á,Á,j+1,Á,Á,s3.R s4,s4 _ _ cg,O);grind
    .delta vy at O;rw[af (by ext oB;rw[show p.st.2=p.fW from rfl,h];rfl)] at O;cases O;let o9:=G2 _ _ cg hDa hDg;apply(_,Á,bh (by rw[<-W];exact Dv.a) TP.1 (TP.2 _ Ä) (We p1) ⟨_,Á,_,Á,D,_,_,.int ((b:Nat):Int),Á,Á,aa.of o9,gc G3,p1.sm,_,_,.int ((p.sames.D b 0:Nat):Int),Á,Á,aa.of Dv.sm,?_,?_⟩)
     .rw[Y];exact gc (GC kT)
     .apply k H3 p1 (Wz J e Dv W Dx Y NI NJ) W Dx Y ?_ (λb o e1 h1 h2=>G2 b o (s3 _ _ e1) h1 h2) (λa ha=>(NK a ha).imp id λz=>s3.free z);ext gK.st si;symm
  .rw[af (by ext oB;rw[h];rfl)] at U;cases U;apply(_,Á,k H1 p1 (Wz J e Dv W Dx Y NI NJ) W Dx Y ?_ G2 NK);ext gK.st si;symm
end
def oE(sames:LN):ik->cu->Option (LN×ik)
 |st,[]=>some ([],st)
 |st,p::r=>match oC sames st p.1 p.2 with
  |none=>none
  |some x=>match oE sames x.2 r with
   |none=>none
   |some y=>some (x.1::y.1,y.2)
def ud.refl:ud H p p:=λ_ h=>.inl h
def Apart(D:Addr)(p:gK):Prop:=D≠p.a/\D≠p.gp/\D∉p.own
def akT(h:pE CP H p)(j:a∈p.own):∃l,H a=Α (.lst l):=by
 delta gK.own at j;rcases aV.mp j with rfl|j
 .exact(_,h.sm)
 .rcases aV.mp j with rfl|j
  .exact(_,h.sp)
  .let(q,m,rfl):=b9.mp j;exact(_,h.gl q m)
def apart_new(h:pE CP H p)(j:H D=Β):Apart D p:=by
 apply(λe=>?_,λe=>?_,λe=>?_)
 .rw[e,h.a] at j;cases j
 .rw[e,h.gp] at j;cases j
 .let(l,m):=akT h e;symm
def NL(h:Apart D p)(j:p'.a=p.a)(m:p'.gp=p.gp)(O:ud H p p')(z:H D≠none):Apart D p':=⟨by rw[j];exact h.1,by rw[m];exact h.2.1,λe=>(O D e).elim h.2.2 z⟩
def pE.upd(h:pE CP H p)(j:Apart D p):pE CP (upd H D o) p:=by
 let n:∀a∈p.own,a≠D:=λa z e=>j.2.2 Å;apply(?_,?_,?_,λq m=>?_,?_)
 .rw[ao (dj j.1)];exact h.a
 .rw[ao (n _ (by ext gK.own;simp))];exact h.sm
 .rw[ao (dj j.2.1)];exact h.gp
 .rw[ao (n _ (by ext gK.own;exact aQ _ (aQ _ (b9.mpr ⟨q,m,Á⟩))))];exact h.gl q m
 .rw[ao (n _ (by ext gK.own;simp))];exact h.sp
def m8.upd(h:m8 CP H p)(j:Apart D p):m8 CP (upd H D o) p:=⟨h.ok.upd j,h.ne,h.row,h.pos,h.dh,h.Ds,h.nd,h.G1⟩
inductive NM(CP:Addr)(vs:ay)(H:Hp)(Q:VK)(E':XK):Prop
 |mk (p:gK) (x z:c6) (r:LN×ik) (_:vs=[.ref p.a,.ref x.a,.ref z.a]) (_:m8 CP H p) (_:aX H (lsN x)) (_:aX H (lsN z)) (_:x.ns.L=z.ns.L) (_:x.ns.L<=1000) (_:oE p.sames p.st (x.ns.zip z.ns)=Α r) (_:∀H' p' q,m8 CP H' p'->p'.a=p.a->p'.gp=p.gp->p'.sames=p.sames->p'.st=r.2->vx p.a p.gp H H'->ud H p p'->H q=Β->H' q=Α (.lst (iv (nv r.1)))->Apart q p'->Q Èy H')
section
variable{P:Pg}{w:Wd}{K:FR}{mg:MG}{base:Heap}{CK CL CS N CV CP:Addr}{C:Cs}
def NQ:bQ ["plan","row","stands","place","sign"] ["plan","row","stands"] (aY Lr):=cJ
inductive HtI(CP D:Addr)(p:gK)(H:Hp)(x z:c6)(r:LN×ik)(i:Nat)(H2:Hp):Prop
 |mk (p2:gK) (fs:LN) (r2:LN×ik) (_:vx p.a p.gp H H2) (_:m8 CP H2 p2) (_:p2.a=p.a) (_:p2.gp=p.gp) (_:p2.sames=p.sames) (_:ud H p p2) (_:Apart D p2) (_:H2 D=Α (.lst (iv (nv fs)))) (_:fs.L=i) (_:oE p.sames p2.st ((x.ns.zip z.ns).drop i)=Α r2) (_:fs++r2.1=r.1) (_:r2.2=r.2)
def akV(F:bx K "hoist_told" "hoist_told" Lr f fd)(tE:mg "enumerate"=Β)(dF:Ç 2 "flag_told" ["plan","sign","bits"] (NH CP)):Ì aF 3 f fd ["plan","row","stands"] (NM CP):=by
 refine F.ok NQ Â;let(p,x,z,r,rfl,U,hx,hz,hl,ju,hh,k):=h;let J:=Da hx;let Z:=Da hz;refine⟨_,aE (a0 (eB (own:=[("place",3),("sign",4)]) (g:=g2 K 3 4) (te:=ic (NH CP) [] E0 (bo ύ (bo Ãv (bo (bV ž š Ş) dQ)))) Á NQ.nd
   (lI Ò tE Ŝ) Ê
   (λ_ _ _ _ _=>iM 3 4 NQ.nd) Õ
   (λ_ _ _ _ _=>bH dF (ae Ú (ae ĸ (ae (cQ c8 è ú Ø) ah)))))),?_⟩
 let akW:x.a≠p.a:=λe=>by rw[e,U.ok.a] at J;cases J
 let akX:x.a≠p.gp:=λe=>by rw[e,U.ok.gp] at J;cases J
 let akY:z.a≠p.a:=λe=>by rw[e,U.ok.a] at Z;cases Z
 let akZ:z.a≠p.gp:=λe=>by rw[e,U.ok.gp] at Z;cases Z
 apply(_,Á,x.a,_,Á,aa.of J,λD hD=>?_);let G4:=eO J hD;let hzD:=eO Z hD;let Dy:=apart_new U.ok hD;refine l7 (K:=K) (a:=x.a) (xs:=iv (nv x.ns)) (HtI CP D p H x z r)
  ⟨p,[],r,ai.x (aN hD),U.upd Dy,rfl,rfl,rfl,ud.refl,Dy,aq,rfl,hh,rfl,rfl⟩ (λi H2 _ h=>(by let(p2,fs,r2,Y):=h;exact aa.of (Y _ _ J akW akX))) ?_ ?_
 .rintro i v Tt H2 hi ⟨p2,fs,r2,Y,g2,ea,eg,es,ow,ap,cg,gr,j,xm,G5⟩ hT;let(sg,kO,rfl):=om hi;let d7:=(bO.mp kO).1;obtain⟨m,V9⟩:∃m,z.ns[i]? =Α m:=⟨_,c7 Å⟩;let g8:(x.ns.zip z.ns)[i]? =Α (sg,m):=by
   symm
  rw[AH g8] at j;let W:ai H2 (upd H2 Tt (.tup [.int (i:Nat),.int (sg:Nat)])):=aN hT;let G3:(iv (nv z.ns))[i]? =Α (.int ((m:Nat):Int)):=by
   symm
  delta oE at j;cases e1:oC p.sames p2.st sg m with
  |none=>symm
  |some y1=>
   rw[e1] at j;dsimp only at j;cases e2:oE p.sames y1.2 ((x.ns.zip z.ns).drop (i+1)) with
   |none=>symm
   |some y2=>
    rw[e2] at j;let j:=aO j;subst j;refine ß;generalize hHx:upd H2 Tt (.tup [.int (i:Nat),.int (sg:Nat)])=Hx at W;let g3:=g2.E W;apply(_,Á,_,Á,_,Á,_,Á,z.a,_,_,.int ((m:Nat):Int),Á,Á,aa.of (W _ _ (Y _ _ Z akY akZ)),gc G3,p2,sg,m,y1,by simp_all,g3,by simp_all,λH3 p3 g4 AM AN NR WA AQ AR=>?_);let Dz:=W _ _ cg;let o9:=AQ _ _ Dz ap.1 ap.2.1;let DA:=NL ap AM AN AR Å;apply(_,o9,by rw[fb,jR];exact g9 Ô,p3,fs++[y1.1],y2,λb o e h1 h2=>?_,g4.upd DA,AM.R ea,AN.R eg,NR.R es,λa ha=>?_,DA,?_,by simp_all,by simp_all,by simp_all,G5)
    .rw[ao (eO e hD)];exact AQ _ _ (W _ _ (Y b o e h1 h2)) Å Å
    .rcases AR a ha with h|h
     .exact ow a h
     .apply .inr ?_;cases e:H a with
      |none=>rfl
      |some o=>
       exfalso;let O:=W.free h;by_cases h1:a=p.a
       .rw[h1,<-ea,g2.ok.a] at O;cases O
       .by_cases h2:a=p.gp
        .rw[h2,<-eg,g2.ok.gp] at O;cases O
        .rw[Y a o e h1 h2] at O;cases O
    .rw[aq];simp
 .rintro H2 ⟨p2,fs,r2,Y,g2,ea,eg,es,ow,ap,cg,gr,j,xm,G5⟩;rw[fb,jR] at gr j;rw[ZY Å] at j;cases j;grind
end
def a7(ms:aG):LN:=(List.range ms.L).J λi=>decide ((ms.D i fq).role=1)
def fX(ms:aG)(rows:bq):bq:=rows.M (qK ms Ĭ)
def DB(ms:aG)(rows:bq):List (Nat×LI):=oA (2^(a7 ms).L) (jA ms rows.flatten) (iY û)
def pH(ms:aG)(rows:bq):ik:=(DB ms rows,sf (2^(a7 ms).L) ((List.range (2^(a7 ms).L)).M (r9 ms Ĭ)) (DB ms rows))
def m9(sames:LN):ik->List cu->Option (bq×ik)
 |st,[]=>some ([],st)
 |st,p::r=>match oE sames st p with
  |none=>none
  |some x=>match m9 sames x.2 r with
   |none=>none
   |some y=>some (x.1::y.1,y.2)
def ng(rows m:bq):List cu:=(rows.zip m).M λp=>p.1.zip p.2
def oG(ms:aG)(rows:bq):Option (Option bq):=
 if jA ms rows.flatten=[] then some (some rows) else if (pH ms rows).2.any (λz=>decide (z<0))=true then some none else (m9 Ĭ Ær Ãs).M λx=>some x.1
structure xn(ms:aG):Prop where
 dh:(a7 ms).L<=10
 pos:∀s∈a7 ms,1<=lO ms s
inductive G6(CK:Addr)(vs:ay)(H:Hp)(Q:VK)(E':XK):Prop
 |mk (pk:Addr) (ks:List aB) (y:ck) (r:Option bq) (_:vs=[.ref pk,.ref y.a]) (_:Ŵ ks) (_:xn Í) (_:Nt H y ks.L) (_:(y.m.flatten).L<=1000) (_:oG Í y.m=Α r) (_:(∀hs,r=Α hs->∀H' z,ai H H'->ck.m z=hs->aX H' (eV z)->ji H (eV z)->Q Äz H')) (_:(r=Β->∀H',ai H H'->Q .aK H'))
def ak0(l:cu)(s:Nat):(b7 (iY l) s).isSome=(l.M (·.1)).Y s:=by
 refine snoc_ind (P:=λl=>(b7 (iY l) s).isSome=(l.M (·.1)).Y s) Á Áy l;rw[Dm,bZ];ext oneAt;rw[Fm];by_cases h:s=x.1
 .rw[af h];simp[h]
 .rw[ag h,ih];simp[h]
def ak1(l:cu):((iY l).M (·.1)).Nodup:=by
 refine snoc_ind (P:=λl=>((iY l).M (·.1)).Nodup) Bq Ãz l;rw[Dm];exact Fn ih
theorem WB:∀(rows m:bq),rows.L=m.L->(∀(i:Nat)(a b:LN),rows[i]? =Α a->m[i]? =Α b->a.L=b.L)->(eX rows m).M (·.1)=rows.flatten:=by
 intro rows;induction rows with
 |nil=>
  intro m j _;cases m with
  |nil=>rfl
  |cons _ _=>cases j
 |cons a rows z=>
  intro m j h2;cases m with
  |nil=>cases j
  |cons b m=>
   let z:=z m (À j) λi x y F J=>h2 (i+1) x y F J;delta eX at z⊢;rw[Ea,Em,bZ,z,QD];congr 1;let:=h2 0 a b rfl rfl;exact List.map_fst_zip (by show a.L<=b.L;symm)
def WC(ms:aG)(rows:bq):rows.L=(fX ms rows).L:=by ext fX;rw[az]
def NS(ms:aG)(rows:bq):∀(i:Nat)(a b:LN),rows[i]? =Α a->ō[i]? =Α b->a.L=b.L:=λi a b j h2=>by
 delta fX at h2;rw[bU,j] at h2;cases h2;ext qK;simp
def ak2(G:Nat)(lacks:List (Nat×Int))(j:List (Nat×LN)):(oA G lacks j).M (·.1)=lacks.M (·.1):=by
 ext oA;simp
def NU(ms:aG)(F:LN):((jA ms F).M (·.1)).Nodup:=asd (GJ ms (gH F)) (GI F)
def ak3(ms:aG)(F:LN):(jA ms F).L<=F.L:=by
 let j:=(GJ ms (gH F)).length_le;let h2:=Nr F;rw[az,az] at j;ext jA;lia
def WD(h:p∈jA ms flat):p.1∈flat:=by
 let j:p.1∈(jA ms flat).M (·.1):=b9.mpr ⟨p,h,rfl⟩;let h2:=(GJ ms (gH flat)).subset j;let(q,m,e):=b9.mp h2;rw[<-e];exact VY m
def ak4(h:xn ms):Dg ms Ĭ:=⟨by let:=h.dh;lia,λs hs=>by
 delta a7 at hs;simpa using (jF.mp hs).1,h.pos⟩
section
variable{P:Pg}{w:Wd}{K:FR}{mg:MG}{base:Heap}{CK CL CS N CV CP:Addr}{C:Cs}
def pI:bQ ["kinds","rows","lacks","row","sames","number","kind","stands","plan"] ["kinds","rows"] (aY Lj):=cJ
inductive DsI(CP D3:Addr)(p:gK)(H6:Hp)(y z:ck)(r0:bq×ik)(i:Nat)(H7:Hp):Prop
 |mk (p2:gK) (zs:List c6) (r2:bq×ik) (_:vx p.a p.gp H6 H7) (_:m8 CP H7 p2) (_:p2.a=p.a) (_:p2.gp=p.gp) (_:p2.sames=p.sames) (_:ud H6 p p2) (_:Apart D3 p2) (_:H7 D3=Α (.lst (zs.M λx=>V.ref x.a))) (_:zs.L=i) (_:(∀x∈zs,H7 x.a=Α ώ/\Apart x.a p2/\H6 x.a=Β/\x.a≠D3)) (_:m9 p.sames p2.st ((ng y.m z.m).drop i)=Α r2) (_:zs.M c6.ns++r2.1=r0.1)
def ak6(F:bx K "display_told" "display_told" Lj f fd)(T:tI K CK)(TP:lN K CP ["sames","gaps","spares"])(Ny:mg "list"=Β)(tE:mg "enumerate"=Β)(tN:mg "min"=Β)(cS:Cn mg "SAME" ŧ)(dL:Ç 1 "copies_lacking" ["kinds","rows"] (VZ CK)) (dA:Ç 2 "sames_along" ["kinds","sames","row"] (Nk CK)) (dP:Ç 1 "places_of" ["rows","stands"] V5)(dO:Ç 3 "plan_of" ["kinds","sames","lacks","places"] (Wi CK CP)) (dH:Ç 3 "hoist_told" ["plan","row","stands"] (NM CP)):Ì aF 4 f fd ["kinds","rows"] (G6 CK):=by
 refine F.ok pI Â;let(pk,ks,y,r,rfl,hk,yn,Y,gr,U,k1,k2):=h;refine⟨_,aD (cy 2 pI.nd (bH dL (ae Ú Ŝ)))
  (aD (dv (cV (aeZ hr.units) è EV (bW _)) (aE (a0 (eB (own:=[("row",3)]) (te:=rq (λxs H Q=>∃p ys,xs=[.ref p]/\(ã p ys\/bz K H p ys)/\∀l,H l=Β->Q Ãc (Ϣ Âk)) Âx) rfl pI.nd Æy Ê
   (λ_ _ _ _ _=>dy 3 pI.nd) Õ (λ_ _ _ _ _=>wb aca Ò Ny Wj Ĺ)))) eA)
  (aD (cy 4 pI.nd (eB (own:=[("number",5),("kind",6)]) (g:=g2 K 5 6) (tt:=nP (bV oW (f7 K (aA 6) "role") Åj)) (te:=aA 5) rfl pI.nd
   (Âs) Ê
   (λ_ _ _ _ _=>iM 5 6 pI.nd)
   (λ_ _ _ _ _=>qj (cV ir (bg Ãr rfl) Ça (bW _))) (λ_ _ _ _ _=>pv 5)))
  (aD (cy 7 pI.nd (eB (own:=[("row",3)]) (te:=ic (Nk CK) [] E0 (bo ύ (bo Ãv Âx))) rfl pI.nd Æy Ê
   (λ_ _ _ _ _=>dy 3 pI.nd) Õ (λ_ _ _ _ _=>bH dA (ae Ú (ae ĸ Ĺ)))))
  (aD (cy 8 pI.nd (bH dO (ae Ú (ae ĸ (ae è (ae (bH dP (ae â (ae Åt ah))) ah))))))
  (aD (dv (cV xS (dc (RM rfl) Ò tN Wv (ae (bg (pv 8) rfl) ah)) bp (bW _)) ϋ eA)
  (aE (a0 (eB (own:=[("number",5),("row",3)]) (g:=g2 K 5 3) (te:=ic (NM CP) [] E0 (bo (aA 8) (bo Ş (bo (bV ž Èw (aA 5)) dQ)))) rfl pI.nd
   (lI Ò tE Ŝ) Ê
   (λ_ _ _ _ _=>iM 5 3 pI.nd) Õ
   (λ_ _ _ _ _=>bH dH (ae (pv 8) (ae ú (ae (cQ c8 Åt Äl Ø) ah)))))))))))),?_⟩
 let qL:=jS Y.l;let WE:=Y.dh;apply(_,Á,_,Á,pk,ks,y,Á,hk,Y,λH1 pl nL=>?_);let s1:=nL.1;let dg:=nL.2.2;let ak7:=U;delta oG at U;let AJ:=NU Í y.m.flatten;let Wk:=ak3 Í y.m.flatten;let qH:∀p∈jA Í y.m.flatten,p.1∈y.m.flatten:=λp hp=>WD hp;let hG:DB Í y.m=oA (2^(a7 Í).L) Äp (iY (eX y.m (fX Í y.m))):=rfl;generalize jA Í y.m.flatten=lacks at dg U AJ Wk qH hG;refine⟨_,Á,λe he=>⟨pl,e,_,Á,Á,(Èf) _ _ dg,aq,_,Á,bc Ï Ï⟩⟩
 .let hc:lacks=[]:=by
   cases lacks with
   |nil=>rfl
   |cons a b=>exact absurd hc (by ext bG;simp)
  rw[af hc] at U;let s2:ai H (upd H1 e Àz):=s1.R Èf;generalize upd H1 e Àz=H2 at s2;apply(_,Á,y.a,Á,⟨_,aa.of (s2 _ _ qL)⟩,λD hD=>gC (K:=K) (a:=y.a) (xs:=y.ls.M λx=>V.ref x.a) (jz H2 D λi=>y.m.D i []) Ď (λi H' _ f=>aa.of (f.E _ _ (s2 _ _ qL))) (λi v H' hi f=>?_) ý)
  .let(x,J,rfl):=iC hi;let gJ:=bY J;let d7:=(bO.mp J).1;exact(Á,eJ ⟨_,Á,x.a,_,Á,.inl (aa.of (f.E _ _ (s2 _ _ (m6 Y.l gJ)))),λl hl=>(jz.step hD Ô f (aN hl) hl (by rw[aq,De J]))⟩)
  .let(z,rfl,s3,em,l1,fr):=jz.end hD f;apply k1 _ (aO U).symm H' z Ĳ ?_ l1 (ji.back fr s2);rw[em,az];let:=xj (l:=y.m) (g:=λx=>x) (d:=[]);rw[iI,List.map_id'] at this;exact this
 .let hc:¬lacks=[]:=λz=>hc (by rw[z];rfl);rw[ag hc] at U;let s2:ai H (upd H1 e Àz):=s1.R Èf;let WG:=(aN (o:=.dK []) he) _ _ dg;generalize upd H1 e Àz=H2 at s2 WG;let xb:=hk.E s2;let hkf:=hk.dh;refine⟨_,Á,pk,_,Á,aa.of xb.a,λD hD=>l7 (K:=K) (a:=pk) (xs:=ks.M λk=>V.ref k.a) (mf H2 D λi=>decide (((ks.M aB.m).D i fq).role=1)) (mf.zero hD) (λi H' _ f=>aa.of (f.1 _ _ xb.a)) Áq Æk⟩
  .let(b,hb,rfl):=iC hi;let d7:=(bO.mp hb).1;let s3:ai H' (Ϩ (.tup [.int (i:Nat),.ref b.a])):=aN hT;refine ñ;refine⟨_,Á,bh (jy ((og xb.l Èe).E (f.1.R s3))) T.c T.wY (wX b) ĺ⟩;rw[show V.int 1=V.int ((1:Nat):Int) from rfl,my];refine bc Ï Ï
   .exact(_,Á,f.yes hD Ô s3 (by rw[getD_map hb];exact hc))
   .exact f.no s3 (by rw[getD_map hb];exact hc)
  .let gG:H3 D=Α (.lst (iv (nv (a7 Í)))):=by
    let:=f.2;rw[az] at this;ext a7;rw[az];exact this
   let s3:=s2.R f.1;let ak9:=f.1 _ _ WG;let hk3:=hk.E s3;let WH:=ak4 yn;apply(_,Á,y.a,Á,⟨_,aa.of (s3 _ _ qL)⟩,λD2 cg=>gC (K:=K) (a:=y.a) (xs:=y.ls.M λx=>V.ref x.a) (jz H3 D2 λi=>qK Í (a7 Í) Ço) Ãu (λi H' _ f=>aa.of (f.E _ _ (s3 _ _ qL))) (λi v H' hi f2=>?_) (λH4 f2=>?_))
   .let(x,J,rfl):=iC hi;let gJ:=bY J;let d7:=(bO.mp J).1;exact(Á,eJ ⟨_,Á,_,Á,_,Á,pk,D,x.a,ks,a7 Í,x.ns,Á,hk3.E f2.E,f2.E _ _ gG,WH,f2.E _ _ (s3 _ _ (m6 Y.l gJ)),Y.short x gJ,λH5 q n5=>(jz.step cg Ô f2 n5.1 n5.2.1 (by rw[De J];exact n5.2.2))⟩)
   .let(z,rfl,s4,em,l4,fr4):=jz.end cg f2;let nh:z.m=fX Í y.m:=by
     rw[em,az];let:=xj (l:=y.m) (g:=qK Í (a7 Í)) (d:=[]);rw[iI] at this;exact this
    let rG:y.ls.L=z.ls.L:=by rw[<-iI,<-iI,nh];exact WC _ _
    let WI:∀(i:Nat)(a b:c6),y.ls[i]? =Α a->z.ls[i]? =Α b->a.ns.L=b.ns.L:=λi a b W h2=>NS Í y.m i a.ns b.ns (by ext ck.m;rw[bU,W];rfl) (by rw[<-nh];ext ck.m;rw[bU,h2];rfl);let Na:=WB y.m z.m (by rw[iI,iI];exact rG) (by rw[nh];exact NS _ _);let ato:(eX y.m z.m).L<=1000:=by
     let:=cw List.length Na;rw[az] at this;lia
    let s5:=s3.R s4;let alb:=s4 _ _ gG;let WJ:=s4 _ _ ak9;apply(_,Á,_,Á,_,Á,_,Á,_,Á,y,z,Á,aX.E Y.l s5,l4,rG,WI,by lia,λH5 pp t s6 yL tb et=>?_);let s7:=s5.R s6;let Nz:∀p∈t,p.2.ns.L<=1000:=λp hp=>by
     let(i,hi,ei):=qV hp;let W:cont p∈iY Æx:=by rw[<-et];exact b9.mpr ⟨p,hp,Á⟩
     let h2:=z5 (ak1 Æx) (s:=p.1) (v:=p.2.ns) W;let:=V3 _ h2;lia
    let ig:∀p∈lacks,(b7 t p.1).isSome=true:=λp hp=>by
     let W:=AG t p.1;rw[et] at W;let h2:=ak0 Æx p.1;rw[W,Na,Ee] at h2;rw[h2];simpa using qH p hp
    let alc:pp≠pl:=λe=>by rw[e,WJ] at yL;cases yL
    apply(pk,D,pl,pp,ks,a7 Í,lacks,t,Á,hk.E s7,s6 _ _ alb,WH,yn.dh,s6 _ _ WJ,AJ,by lia,tb.d,tb.l,Nz,ig,alc,λZ p s8 ok Ak GZ aU atp kU G7 i9=>?_);let s9:=s7.R s8;let WK:p.st=pH Í y.m:=by
     ext gK.st pH;rw[i9,G7,hG,et,nh]
    let ald:p.fW.L=2^(a7 Í).L:=by
     rw[i9];exact Wg _ _ _ (by rw[az,gq])
    let h2k:2^(a7 Í).L<=1024:=IH Ù yn.dh;let h2p:0<2^(a7 Í).L:=Nat.pow_pos Ù;let oo:p.eF.L=lacks.L:=by
     let:=cw List.length G7;delta oA at this;rw[az,az] at this;exact this
    let Bd:m8 CP Z p:=⟨ok,aU,λq O=>by rw[ald];exact Wh (p:=gY q) (by rw[<-G7];exact b9.mpr ⟨q,O,rfl⟩),by lia,by lia,by lia,by rw[<-NG,G7,ak2];exact AJ,by rw[kU];exact yn.dh⟩;let Th:p.fW=(pH Í y.m).2:=cw Prod.snd WK;rw[<-Th] at U;refine⟨_,Á,bh ok.a TP.1 (TP.2 _ Ä) (Wf p) ⟨p.sp,p.fW,Á,aa.of ok.sp,by omega,λm hm i5=>⟨_,_,rfl,rfl,_,rfl,bc Äa Äa⟩⟩⟩
    .simp at iV;rw[af (pX.mpr ⟨m,hm,eN iV⟩)] at U;exact k2 (aO U).symm Z s9
    .simp at iV;rw[ag (λe=>by
      let(z',Es,h2):=pX.mp e;let:=sE h2;let:=i5 z' Es;lia)] at U
     rw[<-WK,<-kU,<-nh] at U;let(r0,ue,er):=zf.mp U;let k3:=k1 r0.1 er.symm;clear U ak7 k1 k2;let G8:=s9 _ _ qL;let WL:=l4.E (s6.R s8);let ale:=jS WL;let alf:=aX.E Y.l s9;let G9:∀b o,Z b=Α Çm->b≠p.a/\b≠p.gp:=λb o e=>⟨λz=>(by rw[z,ok.a] at e;cases e),λz=>(by rw[z,ok.gp] at e;cases e)⟩;apply(_,Á,y.a,_,Á,aa.of G8,λD3 o9=>?_);let Dy:=apart_new ok o9;refine l7 (K:=K) (a:=y.a) (xs:=y.ls.M λx=>V.ref x.a) (DsI CP D3 p Z y z r0)
      ⟨p,[],r0,ai.x (aN o9),Bd.upd Dy,rfl,rfl,rfl,ud.refl,Dy,aq,rfl,by simp,ue,rfl⟩ (λi H7 _ h=>(by let(p2,zs,r2,sx):=h;exact aa.of (sx _ _ G8 (G9 _ _ G8).1 (G9 _ _ G8).2))) ?_ ?_
     .rintro i v Tt H7 hi ⟨p2,zs,r2,sx,g2,ea,eg,es,ow,ap,NV,NW,yO,j,xm⟩ hT;let(x,J,rfl):=iC hi;let d7:=(bO.mp J).1;obtain⟨u,hu⟩:∃u,z.ls[i]? =Α u:=⟨_,c7 Å⟩;let gJ:=bY J;let hum:=bY hu;let Ve:=m6 alf gJ;let hu6:=m6 WL hum;let g8:(ng y.m z.m)[i]? =Α (x.ns.zip u.ns):=by
       ext ng ck.m;rw[bU,(II (i:=i) (l₁:=y.ls.M c6.ns) (l₂:=z.ls.M c6.ns) (z:=(x.ns,u.ns))).mpr ⟨by rw[bU,J];rfl,by rw[bU,hu];rfl⟩];rfl
      rw[AH g8] at j;delta m9 at j;cases e1:oE p.sames p2.st (x.ns.zip u.ns) with
      |none=>rw[e1] at j;cases j
      |some y1=>
       rw[e1] at j;dsimp only at j;cases e2:m9 p.sames y1.2 ((ng y.m z.m).drop (i+1)) with
       |none=>rw[e2] at j;cases j
       |some y2=>
        rw[e2] at j;let j:=aO j;subst j;let t1:ai H7 (upd H7 Tt (.tup [.int (i:Nat),.ref x.a])):=aN hT;refine ß;generalize hHx:upd H7 Tt (.tup [.int (i:Nat),.ref x.a])=Hx at t1;let kept:∀b o,Z b=Α Çm->Hx b=Α Çm:=λb o e=>t1 _ _ (sx _ _ e (G9 _ _ e).1 (G9 _ _ e).2);apply(_,Á,_,Á,_,Á,_,Á,z.a,_,_,.ref u.a,Á,Á,aa.of (kept _ _ ale),gc (by rw[bU,hu];rfl),p2,x,u,y1,by rw[ea];rfl,g2.E t1,λq O=>?_,λq O=>?_,WI i x u J hu,Y.short x gJ,by rw[es];exact e1,λH8 p3 q g3 AM AN NR WA AQ AR NX ali alj=>?_)
        .simp only[lsN,aV,lj,lp] at O;subst O;exact kept _ _ Ve
        .simp only[lsN,aV,lj,lp] at O;subst O;exact kept _ _ hu6
        .let Dz:=t1 _ _ NV;let Hc:=AQ _ _ Dz ap.1 ap.2.1;let DA:=NL ap AM AN AR (by rw[Dz];exact λz=>by cases z);let WM:q≠D3:=λe=>by rw[e,Dz] at NX;cases NX
         let WN:∀a,Hx a=Β->Z a=Β:=λa h=>by
          cases e:Z a with
          |none=>rfl
          |some o=>
           exfalso;let hn:=t1.free h;by_cases W:a=p.a
           .rw[W,<-ea,g2.ok.a] at hn;cases hn
           .by_cases h2:a=p.gp
            .rw[h2,<-eg,g2.ok.gp] at hn;cases hn
            .rw[sx a o e W h2] at hn;cases hn
         apply(_,Hc,by rw[az];exact g9 Ô,p3,zs++[⟨q,y1.1⟩],y2,λb o e W h2=>?_,g3.upd DA,AM.R ea,AN.R eg,NR.R es,λa ha=>?_,DA,?_,by rw[mq,NW];rfl,λw hw=>?_,by rw[WA];exact e2,?_)
         .rw[ao (eO e o9)];exact AQ _ _ (t1 _ _ (sx b o e W h2)) (by rw[ea];exact W) (by rw[eg];exact h2)
         .exact(AR a ha).elim (ow a) λh=>.inr (WN a h)
         .rw[aq,bZ];rfl
         .rcases gM.mp hw with hw|hw
          .let(w1,w2,w3,w5):=yO w hw;let w4:=t1 _ _ w1;apply(?_,NL w2 AM AN AR (by rw[w4];exact λz=>by cases z),w3,w5);rw[ao w5];exact AQ _ _ w4 w2.1 w2.2.1
          .let:w=⟨q,y1.1⟩:=by simpa using hw
           subst this;apply(?_,alj,WN _ NX,WM);rw[ao WM];exact ali
         .rw[bZ,qW];exact xm
     .rintro H7 ⟨p2,zs,r2,sx,g2,ea,eg,es,ow,ap,NV,NW,yO,j,xm⟩;rw[az] at NW j;rw[ZY (by ext ng;rw[az,List.length_zip,iI];symm)] at j;cases j;rw[jG] at xm;let sF:=λb o e=>sx b o (s9 _ _ e) (λz=>(by rw[z,s7.free Ak] at e;cases e)) (λz=>(by rw[z,s7.free GZ] at e;cases e));apply k3 H7 ⟨D3,zs⟩ sF xm (VR NV λx J q O=>?_) (Dc (s9.free o9) λx J q O=>?_)
      .simp only[lsN,aV,lj,lp] at O;subst O;exact(yO x J).1
      .simp only[lsN,aV,lj,lp] at O;subst O;exact s9.free (yO x J).2.2.1
end
def uf(part:LI):Bool:=!(decide (part.L>64)||(JM.aJ 32 part).Y [])&&part.all λb=>decide (32<=b)&&decide (b<=126)
inductive WO(K:FR)(CB:Addr)(vs:ay)(H:Hp)(Q:VK)(E:XK):Prop
 |mk (ap:Addr) (part:LI) (_:vs=[.ref ap]) (_:ã ap Ãe) (_:part.L<=100000) (_:(uf part=true->∀H',ai H H'->Q Éb H')) (_:(uf part=false->No E CB H))
theorem WQ{K:FR}{H:Hp}:∀{qs:LA}{L:dm},eE H qs L->jc K H Äk (L.M λl=>PyData.list (l.M PyData.int)):=by
 intro qs L j;induction j with
 |nil=>exact .nil
 |cons h t m=>
  exact .cons (.lst (aa.of h) (rM _)) m
theorem any_empty(L:dm):((L.M λl=>PyData.list (l.M PyData.int)).any λd=>PyData.eqv d (.list []))=L.Y []:=by
 induction L with
 |nil=>rfl
 |cons l L j=>
  rw[a8,uJ,j,Be];congr 1;cases l <;> rfl
section
variable{P:Pg}{w:Wd}{K:FR}{mg:MG}{base:Heap}{CK CL CS N CV CP CB:Addr}{C:Cs}
def NY:bQ ["part","byte"] ["part"] (aY LB):=cJ
def alk{f:Addr}{fd:FD}(F:bx K "read_meaning" "read_meaning" LB f fd)(tL:mg "len"=Β)(tA:mg "all"=Β)(X:ϓ "NoBook" CB N)(cM:Cn mg "LONGEST_MEANING" (.int 64))(cB:Cn mg "BLANK" Æf)(cP:Cn mg "LAST_PRINTED" (.int 126))(dC:Ç 1 "cut" ["text","mark"] (wO K)):Ì ę 2 f fd ["part"] (WO K CB):=by
 refine F.rK NY Â;let(m,part,rfl,J,hl,k1,k2):=h;refine⟨_,aD (dv (PW.pt (pw_or (cV wa Ċ (cj cM) (bW _)) (pw_or1 (cV (J4 (oN (ZC Ù _) hr.un)) Ļ (bH dC (ae Ú ϸ)) (by with_unfolding_all rfl))))) ŏ eA)
  (aD (dv (qe (jH (dc (wj rfl) Ò tA zm (ae (eB (own:=[("byte",1)]) (te:=Jm (gu λi j=>.bl (decide (i<=j))) (gu λi j=>.bl (decide (i<=j))) (tC Æf) Ϟ (tC (.int 126))) rfl NY.nd Åo Ê
   (λ_ _ _ _ _=>dy 1 NY.nd) Õ (λ_ _ _ _ _=>Rf xT xT (cj cB) â (cj cP))) ah)))) Û eA)
  (aE (a0 Ú))),?_⟩
 let em:uf part=(!(decide (part.L>64)||(JM.aJ 32 part).Y [])&&part.all λb=>decide (32<=b)&&decide (b<=126)):=rfl;refine⟨_,Á,m,_,Á,.inl J,_,_,Á,Á,_,Á,bc Ï Ï⟩
 .let hc:part.L>64:=by
   grind
  apply lJ (gX (k2 ?_));symm
 .let hc:¬part.L>64:=by
   grind
  apply(du _,λl Y=>⟨_,Á,m,32,part,Á,L2.ai.seq (aN Y) J,hl,λZ p qs U qF nd aU fr=>?_⟩);let s1:ai H (Ϣ ä):=aN Y;let s2:=s1.R U.1;let ju:=U.1 _ _ aq;apply(p,_,_,.list [],Á,aa.of U.2.2,WQ qF,.lst (aa.of ju) .nil,λd hd=>?_,Á,_,Á,?_)
  .let(x,_,rfl):=b9.mp hd;exact shaped_ints x
  rw[any_empty];refine bc Äa Äa
  .apply gX ((k2 ?_).go s2);symm
  .let e1:uf part=part.all λb=>decide (32<=b)&&decide (b<=126):=by
    symm
   refine⟨_,Á,m,Á,⟨_,s2.seq J⟩,λD hD=>gC (K:=K) (a:=m) (xs:=iv part) (cK Z D λi v ns=>ns=[]/\∀b,part[i]? =Α b->v=.bl (decide (32<=b)&&decide (b<=126))) Ď (λi H' _ f=>(s2.R f.E).seq J) Č ý⟩
   .let(z,hz,rfl):=tG hi;let d7:=(bO.mp hz).1;refine⟨Á,eJ ⟨_,Á,_,_,Á,Á,_,Á,bc Ū Ū⟩⟩
    .apply(_,_,Á,Á,?_);apply f.step hD Ô ĵ ⟨Á,λb hb=>?_⟩ aX.nil Ä;symm
    .apply f.step hD á ĵ ⟨Á,λb hb=>?_⟩ aX.nil Ä;lia
   .let(ys,s3,qy,W,fl):=f.end;rw[fb] at W;let ey:ys=(part.M λb=>decide (32<=b)&&decide (b<=126)).M V.bl:=by
     rw[cZ];apply vh W λi y x h1 h2=>?_;let(ns,(_,e),_):=fl i y h1;symm
    apply(D,part.M λb=>decide (32<=b)&&decide (b<=126),Á,by rw[<-ey];exact aa.of qy,_,rfl,?_);rw[sD];let e2:part.all (id∘ λb=>decide (32<=b)&&decide (b<=126))=uf part:=by rw[e1];rfl
    rw[e2];apply bc (λO=>?_) (λO=>?_)
    .exact gX ((k2 Å).go Ĳ)
    .exact(_,Á,k1 Å H' Ĳ)
end
abbrev keyOf(name:LI):d9:=name.M Sum.inl
def WR(name:LI):iv name=(keyOf name).M kV:=by
 ext iv keyOf;rw[cZ];rfl
theorem aln(h:keyOf a=keyOf b):a=b:=by
 induction a generalizing b with
 |nil=>
  symm
 |cons x a j=>
  cases b with
  |nil=>cases h
  |cons y b=>
   grind
def jT(ms:aG)(i:Nat):Bool:=decide ((ms.D i fq).role=0)
def ug(ms:aG)(n:Nat):List (LI×Nat):=((List.range n).J (jT ms)).M λj=>((ms.D j fq).name,j)
def jU(ms:aG)(name:LI):Option Nat:=(ug ms ms.L).foldl (λacc p=>if p.1=name then some p.2 else acc) none
def yP(ms:aG):List (d9×V):=(ug ms ms.L).foldl (λacc p=>putK acc (keyOf p.1) (V.int ((p.2:Nat):Int))) []
def alo(ms:aG)(name:LI):gi (yP ms) (keyOf name)=(jU ms name).M λn=>V.int ((n:Nat):Int):=by
 ext yP jU;let gen:∀(l:List (LI×Nat))(kvs:List (d9×V))(acc:Option Nat),gi kvs (keyOf name)=acc.M (λn=>V.int ((n:Nat):Int))->
   gi (l.foldl (λacc p=>putK acc (keyOf p.1) (V.int ((p.2:Nat):Int))) kvs) (keyOf name)=(l.foldl (λacc p=>if p.1=name then some p.2 else acc) acc).M λn=>V.int ((n:Nat):Int):=by
  intro l;induction l with
  |nil=>intro kvs acc h;exact h
  |cons p l j=>
   intro kvs acc h;rw[IJ,IJ];apply j _ _ ?_;rw[ac2];by_cases e:p.1=name
   .rw[af e,af (by rw[e])];rfl
   .rw[ag e,ag (λz=>e (aln z).symm)];exact h
 exact gen _ [] none Á
def WS(ms:aG)(i:Nat):ug ms (i+1)=ug ms i++(if jT ms i=true then [((ms.D i fq).name,i)] else []):=by
 ext ug;rw[Dd,bZ];grind
inductive WT(CK:Addr)(vs:ay)(H:Hp)(Q:VK)(E':XK):Prop
 |mk (pk:Addr) (ks:List aB) (_:vs=[.ref pk]) (_:Ŵ ks) (_:∀H' p,ϩ (.dT (yP Í))->Q ĝ H')
section
variable{P:Pg}{w:Wd}{K:FR}{mg:MG}{base:Heap}{CK CL CS N CV CP CB:Addr}{C:Cs}
def NZ:bQ ["kinds","number","kind"] ["kinds"] (aY Lw):=cJ
abbrev WU(K:FR):ay->Hp->VK->Prop:=λxs H Q=>∃p ys,xs=[.ref p]/\((ã p ys/\∀l,H l=Β->Q Ãc (Ϣ Æe))\/(ŭ p ys/\Q ĝ H))
inductive NoI(D:Addr)(H:Hp)(ks:List aB)(i:Nat)(H2:Hp):Prop
 |mk (ps:LA) (ts:List (d9×Addr×V)) (_:ai H H2) (_:H2 D=Α (.lst Âd)) (_:ps.L<=i) (_:Paired (λp(t:d9×Addr×V)=>H2 p=Α (.tup [.ref t.2.1,t.2.2])/\H2 t.2.1=Α (.tup (t.1.M kV))) ps ts) (_:ts.M (λt=>(t.1,t.2.2))=(ug Í i).M λp=>(keyOf p.1,V.int ((p.2:Nat):Int)))
def alq(F:bx K "numbers_of_signs" "numbers_of_signs" Lw f fd)(T:tI K CK)(tD:mg "dict"=Β)(tT:mg "tuple"=Β)(tE:mg "enumerate"=Β)(cS:Cn mg "SIGN" ő):Ì aF 1 f fd ["kinds"] (WT CK):=by
 refine F.ok NZ Â;let(pk,ks,rfl,hk,k):=h;let hkf:=hk.dh;refine⟨_,aE (a0 (wb (afa (oN (ZC Ù _) hr.un) Á) Ò tD V0 (ae (eB (own:=[("number",1),("kind",2)]) (g:=g2 K 1 2) (tt:=nP (bV oW (f7 K š "role") Äh))
   (te:=xU (bo (rq (WU K) (bo (f7 K š "name") dQ)) (bo Ϟ dQ))) rfl NZ.nd
   (Âs) Ê
   (λ_ _ _ _ _=>iM 1 2 NZ.nd)
   (λ_ _ _ _ _=>qj (cV ir (bg è rfl) Ça (bW _)))
   (λ_ _ _ _ _=>uQ (ae (wb RC Ò tT boot_tuple Áj) Ŝ))) ah))),?_⟩
 refine⟨_,Á,pk,_,Á,aa.of hk.a,λD hD=>l7 (K:=K) (a:=pk) (xs:=ks.M λk=>V.ref k.a) (NoI D H ks)
  ⟨[],[],aN hD,aq,bw _,.nil,rfl⟩ (λi U _ h=>(by let(_,_,J):=h;exact aa.of (J _ _ hk.a))) ?_ ?_⟩
 .rintro i v Tt U hi ⟨ps,ts,J,O,dg,Y,W⟩ hT;let(b,hb,rfl):=iC hi;let d7:=(bO.mp hb).1;let j:ai U (upd U Tt (.tup [.int (i:Nat),.ref b.a])):=aN hT;let s3:=J.R j;let kT:=(og hk.l Èe).E s3;let eb:(ks.M aB.m).D i fq=b.m:=getD_map hb;refine ñ;refine⟨_,Á,bh (jy kT) T.c T.wY (wX b) ĺ⟩;rw[show V.int 0=V.int ((0:Nat):Int) from rfl,my];generalize hHx:upd U Tt (.tup [.int (i:Nat),.ref b.a])=Hx at j s3 kT;refine bc Ï Ï
  .apply(_,Á,bh (jy kT) T.c T.nName (U8 b) ⟨b.nm,_,Á,.inl ⟨aa.of (Vk kT),λl hl=>⟨_,Á,(by show 2<=sizeLine;decide),λt Z=>?_⟩⟩⟩);let s4:=aN (o:=.tup (iv b.m.name)) hl;let s5:=j.R (s4.R (aN (o:=.tup [.ref l,.int (i:Nat)]) Z));let br:l≠t:=λz=>by rw[<-z,aq] at Z;cases Z
   let Dl:=j.free (s4.free Z);let FE:l≠D:=λz=>by rw[z,j _ _ O] at hl;cases hl
   let Nv:t≠D:=λz=>by rw[z,O] at Dl;cases Dl
   apply(_,s5 _ _ O,by rw[az];exact g9 Ô,ps++[t],ts++[(keyOf b.m.name,l,V.int ((i:Nat):Int))],rN (J.R s5) hD,?_,?_,?_,?_)
   .rw[aq,bZ];rfl
   .symm
   .refine Paired.snoc (Paired.nF Y λp t' e=>Áp) Áp
    .rw[ao ì];exact s5 _ _ e.1
    .rw[ao ì];exact s5 _ _ e.2
    .rw[ao Nv];exact aq
    .rw[ao FE,ao br,aq,WR]
   .rw[bZ,W,WS,af (show jT Í i=true by ext jT;rw[eb];exact hc),bZ,eb];rfl
  .apply(ps,ts,J.R j,j _ _ O,Nat.le_succ_of_le dg,Paired.nF Y λp t e=>⟨j _ _ e.1,j _ _ e.2⟩,?_);rw[W,WS,ag (show ¬jT Í i=true by ext jT;rw[eb];exact hc),jG]
 .rintro U ⟨ps,ts,J,O,dg,Y,W⟩;rw[az] at W;apply(D,ps,ts,Á,aa.of O,Y,λp hp=>?_);apply k _ p ⟨J.R (aN hp),J.free hp,?_⟩;rw[aq];let em:rO [] ts=yP Í:=by
   let e1:rO [] ts=(ts.M λt=>(t.1,t.2.2)).foldl (λacc p=>putK acc p.1 p.2) []:=by
    ext rO;rw[List.foldl_map]
   rw[e1,W,List.foldl_map];ext yP;simp
  rw[em]
end
def oV:Option Nat->V
 |none=>.aK
 |some n=>.int ((n:Nat):Int)
def pK(ms:aG)(part:LI):List (Option Nat):=(JM.aJ 46 part).M (jU ms)
def xo(ms:aG)(part:LI):Option LN:=if (pK ms part).L>8\/(pK ms part).Y none=true then none else some ((pK ms part).M λo=>o.D 0)
inductive WV(K:FR)(CB:Addr)(vs:ay)(H:Hp)(Q:VK)(E:XK):Prop
 |mk (ap pn:Addr) (ms:aG) (part:LI) (_:vs=[.ref ap,.ref pn]) (_:ã ap Ãe) (_:part.L<=100000) (_:H pn=Α (.dT (yP ms))) (_:(∀row,xo ms part=Α row->∀H' p,ϩ Ãy->Q ĝ H')) (_:(xo ms part=Β->No E CB H))
def alr(l:List (Option Nat)):(l.M oV).all lZ=true:=by
 rw[sD];exact lV.mpr λo _=>by cases o <;> rfl
theorem als(l:List (Option Nat)):we .aK (l.M oV)=l.Y none:=by
 ext we;rw[Qe];induction l with
 |nil=>rfl
 |cons o l j=>
  rw[uJ,Be,j];congr 1;cases o <;> rfl
section
variable{P:Pg}{w:Wd}{K:FR}{mg:MG}{base:Heap}{CK CL CS N CV CP CB:Addr}{C:Cs}
def N0:bQ ["part","numbers","row","name"] ["part","numbers"] (aY Lz):=cJ
def alu(F:bx K "read_signs" "read_signs" Lz f fd)(tL:mg "len"=Β)(tT:mg "tuple"=Β)(X:ϓ "NoBook" CB N)(cF:Cn mg "MOST_FLAGS" (.int 8))(cS:Cn mg "FULL_STOP" (.int 46))(dC:Ç 1 "cut" ["text","mark"] (wO K)):Ì ę 2 f fd ["part","numbers"] (WV K CB):=by
 refine F.rK N0 Â;let(ap,pn,ms,part,rfl,hP,hl,N5,k1,k2):=h;let hu:A.units+3+1<cLine:=oN Ä hr.un;refine⟨_,aD (uW (i:=2) (own:=[("name",3)]) (te:=Si Ϟ (rq (WU K) Âx)) Á N0.nd Á Á Ò (eW (bH dC (ae Ú (ae Ça ah)))) Ê
   (λ_ _ _ _ _=>dy 3 N0.nd) Õ (λ_ _ _ _ _=>adl hu â (wb RC Ò tT boot_tuple Ĺ) ⟨rfl,rfl,rfl,rfl⟩))
  (aD (dv (PW.pt (pw_or (cV wa þ (cj cF) (bW _)) (pw_or1 (cV Jx rj è (by with_unfolding_all rfl))))) Û eA)
  Çe),?_⟩
 refine⟨_,Á,ap,46,part,Á,hP,hl,λH1 p Z j J nd aU fr=>⟨p,Á,⟨_,aa.of j.2.2⟩,λD hD=>gC (K:=K) (a:=p) (xs:=Z.M V.ref) (cK H1 D λi v ns=>ns=[]/\∀x,(JM.aJ 46 part)[i]? =Α x->v=oV (jU ms x)) Ď (λi H' _ f=>aa.of (f.E _ _ j.2.2)) Č ý⟩⟩
 .rw[bU] at hi;cases eq:Z[i]? with
  |none=>symm
  |some q=>
   rw[eq] at hi;cases hi;let(x,hx,hq):=eE.get J eq;let d7:=(bO.mp eq).1;let gB:=FP 46 part;let xc:=J.len;let W:=f.E _ _ (j.1 _ _ N5);apply(Á,eJ ⟨_,Á,pn,Á,.inr ⟨_,.inl W⟩,_,Á,q,_,Á,.inl ⟨aa.of (f.E _ _ hq),λl u6=>⟨_,j9.t (k:=keyOf x) ((aN u6) _ _ W) (by rw[aq,WR]),?_⟩⟩⟩);rw[alo];apply f.step hD Ô (aN u6) ⟨Á,λx' wq=>?_⟩ aX.nil Ä;rw[hx] at wq;cases wq;cases jU ms x <;> rfl
 .let(ys,s1,m,U,fl):=f.end;rw[az,J.len] at U;let ey:ys=(pK ms part).M oV:=by
   ext pK;rw[cZ];apply vh U λi y x h1 h2=>?_;let(ns,(_,e),_):=fl i y h1;symm
  subst ey;let O:=j.1.R s1;let Y:xo ms part=if (pK ms part).L>8\/(pK ms part).Y none=true then none else some ((pK ms part).M λo=>o.D 0):=rfl;generalize pK ms part=L at m Y;refine⟨_,Á,D,_,Á,.inl (aa.of m),_,_,Á,Á,_,Á,bc Ï Ï⟩
  .let hc:L.L>8:=by
    grind
   apply lJ (gX ((k2 ?_).go O));symm
  .let hc:¬L.L>8:=by
    grind
   apply(_,Á,D,_,Á,.inl (aa.of m),Á,alr L,_,Á,?_);rw[als];refine bc Äa Äa
   .apply gX ((k2 ?_).go O);symm
   .apply(_,Á,k1 _ (by rw[Y,ag (λz=>z.elim hc iV)]) H' D ⟨O,j.1.free hD,?_⟩);rw[m];congr 2;ext iv nv;rw[cZ,cZ];apply lh λo ho=>?_;cases o with
    |none=>symm
    |some n=>rfl
end
structure bu where
 a:Addr
 dx:Addr
 rw:Addr
 mn:Addr
 row:LN
 N6:LI
def Hd(e:bu):List (Str×V):=[("row",.ref e.rw),("meaning",.ref e.mn)]
def pL(CE:Addr)(e:bu):jw:=[(e.a,.ins CE e.dx (Hd e)),(e.rw,.lst Çq),(e.mn,.lst (iv e.N6))]
def bu.m(e:bu):LN×LI:=(e.row,e.N6)
def DC(e:bu):(Hd e).Q ("row":Str)=Α (.ref e.rw):=ij
def DE{CE:Addr}{H:Hp}{e:bu}(h:aX H Äm):H e.a=Α (.ins CE e.dx (Hd e)):=h (e.a,_) (by simp[pL])
def DF{CE:Addr}{H:Hp}{e:bu}(h:aX H Äm):H e.rw=Α (.lst Çq):=h (e.rw,_) (by simp[pL])
def alv{CE:Addr}{H:Hp}{e:bu}(j:H e.a=Α (.ins CE e.dx (Hd e)))(h2:H e.rw=Α (.lst Çq))(m:H e.mn=Α (.lst (iv e.N6))):aX H Äm:=λz hz=>by
 simp only[pL,aV,lj,lp] at hz;rcases hz with rfl|rfl|rfl
 .exact j
 .exact h2
 .exact m
def alw{CE:Addr}{H:Hp}{e:bu}(j:H e.a=Β)(h2:H e.rw=Β)(m:H e.mn=Β):ji H Äm:=λz hz=>by
 simp only[pL,aV,lj,lp] at hz;rcases hz with rfl|rfl|rfl
 .exact j
 .exact h2
 .exact m
def iJ(ms:aG)(line:LI):Option (LN×LI):=if line.Y 32=true then
  match xo ms (line.take (line.idxOf 32)) with
  |none=>none
  |some row=>if uf (line.drop (line.idxOf 32+1))=true then some (row,line.drop (line.idxOf 32+1)) else none
 else none
inductive N7(K:FR)(CB CE:Addr)(vs:ay)(H:Hp)(Q:VK)(E:XK):Prop
 |mk (ap pn:Addr) (ms:aG) (line:LI) (_:vs=[.ref ap,.ref pn]) (_:ã ap Æc) (_:line.L<=100000) (_:H pn=Α (.dT (yP ms))) (_:(∀x,iJ ms line=Α x->∀H' e,ai H H'->bu.m e=x->aX H' Äm->ji H Äm->Q (.ref e.a) H')) (_:(iJ ms line=Β->No E CB H))
section
variable{P:Pg}{w:Wd}{K:FR}{mg:MG}{base:Heap}{CK CL CS N CV CP CB CE fm:Addr}{C:Cs}
def WX:bQ ["line","numbers","end"] ["line","numbers"] (aY Ly):=cJ
def alx{f:Addr}{fd:FD}(F:bx K "read_entry" "read_entry" Ly f fd)(X:ϓ "NoBook" CB N)(cB:Cn mg "BLANK" Æf)(dE:ć "Entry" CE ["row","meaning"])(dS:č ę 2 "read_signs" ["part","numbers"] (WV K CB)) (dM:č ę 2 "read_meaning" ["part"] (WO K CB)):Ì ę 3 f fd ["line","numbers"] (N7 K CB CE):=by
 let(fS,yr,GS,mS,kS,bS):=dS;let(fM,fdM,GM,mM,kM,bM):=dM;refine F.rK WX Â;let(Y,pn,ms,line,rfl,O,hl,N5,k1,k2):=h;refine⟨_,aD (dv (cV ab9 (cj cB) Ú (by with_unfolding_all rfl)) ŏ eA)
  (aD (cy 2 WX.nd (sW PySem.F.plainAttrs_list PySem.F.slot_list_index PySem.F.type_list_index RP Ú ϸ))
  (aE (a0 (qB dE hr (ae (mG GS hr rfl mS kS bS .nil rJ (ae (xY xZ Ú xW (xX è)) Ŝ)) (ae (mG GM hr rfl mM kM bM .nil rJ (ae (xY xZ Ú (xX (eP rl è bp)) xW) ah)) ah)))))),?_⟩
 let m:iJ ms line=if line.Y 32=true then (match xo ms (line.take (line.idxOf 32)) with
  |none=>none
  |some row=>if uf (line.drop (line.idxOf 32+1))=true then some (row,line.drop (line.idxOf 32+1)) else none) else none:=rfl
 apply(_,Á,Y,_,Á,.inl O,Á,CI _,_,Á,?_);rw[LR];refine bc Ï Ï
 .let hc:¬line.Y 32=true:=by simpa using hc
  exact gX (k2 Å)
 .let hc:line.Y 32=true:=by simpa using hc
  rw[af hc] at m;let(j,zz,ej,hj,LU,CJ):=UB hc;let wg:j<line.L:=by
   grind
  apply(_,Á,.inl ⟨Á,_,O⟩,Y,_,_,j,zz,Á,Á,O,Á,CI _,hj,LU,CJ,?_);let ej:line.idxOf 32=j:=by omega
  rw[ej] at m;apply(_,Á,_,Á,_,Á,Y,_,Á,O,λJ u9=>?_);rw[Vi _ (show j<=(iv line).L by grind),show(iv line).take j=iv (line.take j) by simp];let U:ai H (upd H J ϟ):=aN u9;let WY:(upd H J ϟ) J=Α ϟ:=aq;generalize upd H J ϟ=H1 at U WY;apply(_,Á,J,pn,ms,line.take j,Á,aa.of WY,by grind,U _ _ N5,λrow er W p n2=>?_,λer=>?_)
  .rw[er] at m;dsimp only at m;let s2:=U.R n2.1;apply(_,Á,_,Á,_,_,Á,Á,_,Á,Y,_,Á,s2.seq O,λz iV=>?_);rw[show((j:Int)+1)=((j+1:Nat):Int) from rfl,CY _ (show j+1<=(iv line).L by grind),show(iv line).drop (j+1)=iv (line.drop (j+1)) by simp];let s3:ai W (upd W z (.lst (iv (line.drop (j+1))))):=aN iV;let Z:(upd W z (.lst (iv (line.drop (j+1))))) z=Α (.lst (iv (line.drop (j+1)))):=aq;generalize upd W z (.lst (iv (line.drop (j+1))))=H3 at s3 Z;apply(z,line.drop (j+1),Á,aa.of Z,by grind,λem H4 s4=>?_,λem=>?_)
   .rw[af em] at m;apply wZ Á λx dx H5 hx jf aU e5 s5=>?_;let s6:=s2.R (s3.R s4);refine k1 _ m H5 ⟨x,dx,p,z,row,line.drop (j+1)⟩ (s6.R s5) Á (alv e5 (s5 _ _ (s4 _ _ (s3 _ _ n2.2.2))) (s5 _ _ (s4 _ _ Z))) (alw (s6.free hx) (U.free n2.2.1) (s2.free iV))
   .rw[ag Å] at m;exact(k2 m).go Ĳ
  .rw[er] at m;exact(k2 m).go U
end
def vz(r s:LN):Bool:=if ((r.L:Nat):Int)=((s.L:Nat):Int) then HT.lexLt (nv r) (nv s) else decide (((r.L:Nat):Int)<((s.L:Nat):Int))
def AS(rows:bq):Bool:=(rows.zip (rows.drop 1)).all λp=>vz p.1 p.2
structure yQ(CE:Addr)(H:Hp)(p:Addr)(es:List bu):Prop where
 a:H p=Α (.lst (es.M λe=>V.ref e.a))
 l:∀e∈es,aX H Äm
 dh:es.L<=2048
def yQ.same{CE:Addr}{H H':Hp}{p:Addr}{es:List bu}(h:yQ CE H p es)(s:ai H H'):yQ CE H' p es:=⟨s _ _ h.a,λe j=>(h.l e j).E s,h.dh⟩
inductive WZ(CE:Addr)(vs:ay)(H:Hp)(Q:VK)(E':XK):Prop
 |mk (p:Addr) (es:List bu) (_:vs=[.ref p]) (_:yQ CE H p es) (_:∀H',ai H H'->Q (.bl (AS Ãk)) H')
def DG(row:LN)(rw p:Addr):jw:=[(p,.tup [.int ((row.L:Nat):Int),.ref rw])]
section
variable{P:Pg}{w:Wd}{K:FR}{mg:MG}{base:Heap}{CK CL CS N CV CP CB CE fm:Addr}{C:Cs}
def AU:bQ ["entries","places","entry","before","place"] ["entries"] (aY LC):=cJ
def aly(F:bx K "are_in_order" "are_in_order" LC f fd)(T:lN K CE ["row","meaning"])(tL:mg "len"=Β)(tA:mg "all"=Β)(tE:mg "enumerate"=Β):Ì aF 1 f fd ["entries"] (WZ CE):=by
 refine F.ok AU Â;let(p,es,rfl,m,k):=h;let hu:A.units+3+128<cLine:=by let:=hr.un;exact oN Ä this
 refine⟨_,aD (cy 1 AU.nd (eB (own:=[("entry",2)]) (te:=xU (bo (rq (λxs H Q=>∃p ys,xs=[.ref p]/\(ã p ys\/bz K H p ys)/\Q (.int ((ys.L:Nat):Int)) H) (bo (f7 K š "row") dQ)) (bo (f7 K š "row") dQ))) Á AU.nd Åo Ê
   (λ_ _ _ _ _=>dy 2 AU.nd) Õ (λ_ _ _ _ _=>uQ (ae (dc gf Ò tL PySem.boot_len Áj) Áj))))
  (aE (a0 (dc (wj rfl) Ò tA zm (ae (eB (own:=[("before",3),("place",4)]) (g:=g2 K 3 4) (te:=bV (Tp K) (bV ž Ϟ Ş) Ãv) rfl AU.nd
   (lI Ò tE (ae (xY xZ â (xX bp) xW) ah)) Ê
   (λ_ _ _ _ _=>iM 3 4 AU.nd) Õ
   (λ_ _ _ _ _=>jI (afh hu) (cQ c8 â ú Ø) ĸ (bW _))) ah)))),?_⟩
 let hf:=m.dh;refine⟨_,Á,p,Á,⟨_,aa.of m.a⟩,λD hD=>gC (K:=K) (a:=p) (xs:=es.M λe=>V.ref e.a) (cK H D λi y ns=>∃b:bu×Addr,es[i]? =Α b.1/\y=.ref b.2/\ns=DG b.1.row b.1.rw b.2) Ď (λi H' _ f=>aa.of (f.E _ _ m.a)) Č ý⟩
 .let(e,O,rfl):=iC hi;let d7:=(bO.mp O).1;let j:=(m.l e (bY O)).E f.E;apply(Á,eJ ⟨_,Á,bh (DE j) T.1 (T.2 _ Ä) (DC e) ⟨e.rw,_,Á,.inl (aa.of (DF j)),_,Á,bh (DE j) T.1 (T.2 _ Ä) (DC e) ⟨(by show 2<=sizeLine;decide),λt ht=>?_⟩⟩⟩);apply f.step hD Ô (aN ht) ⟨(e,t),O,Á,Á⟩ ?_ ?_
  .intro z hz;simp only[DG,lg] at hz;subst hz;rw[aq];simp
  .intro z hz;simp only[DG,lg] at hz;subst hz;let(ys,_,hd,_):=f.end;lia
 .let(ys,s1,hd,j,fl):=f.end;let(bs,rfl,r1,l1):=yA (v:=λb:bu×Addr=>V.ref b.2) (nd:=λb=>DG b.1.row b.1.rw b.2) (R:=λi b=>es[i]? =Α b.1) fl;rw[az,az] at j;let W:∀(i:Nat)(b:bu×Addr),bs[i]? =Α b->H' b.2=Α (.tup [.int ((b.1.row.L:Nat):Int),.ref b.1.rw])/\H' b.1.rw=Α (.lst (iv (nv b.1.row))):=λi b hb=>⟨l1 b Èe (b.2,.tup [.int ((b.1.row.L:Nat):Int),.ref b.1.rw]) (by simp[DG]),s1 _ _ (DF (m.l b.1 (bY (r1 i b hb))))⟩;let ebs:bs.M Prod.fst=es:=by
   apply xI;grind
  apply(_,Á,_,Á,D,_,Á,aa.of hd,λc hc=>?_);let ex:oY (bs.M λb=>V.ref b.2) (some 1) none=(bs.drop 1).M λb=>V.ref b.2:=by
   by_cases hz:1<=bs.L
   .rw[show(1:Int)=((1:Nat):Int) from rfl,CY _ Å,Qy]
   .let:bs=[]:=by
     symm
    rw[this];rfl
  rw[ex];let s2:=aN (o:=.lst ((bs.drop 1).M λb=>V.ref b.2)) hc;let U:(upd H' c (.lst ((bs.drop 1).M λb=>V.ref b.2))) c=Α (.lst ((bs.drop 1).M λb=>V.ref b.2)):=aq;generalize upd H' c (.lst ((bs.drop 1).M λb=>V.ref b.2))=H2 at s2 U;apply(c,_,Á,aa.of U,λY cg=>l7 (K:=K) (a:=c) (xs:=(bs.drop 1).M λb=>V.ref b.2) (cK H2 Y λi y ns=>ns=[]/\∃a b,bs[i]? =Α a/\bs[i+1]? =Α b/\y=.bl (vz a.1.row b.1.row)) Ãu (λi H3 _ f=>aa.of (f.E _ _ U)) (λi y Tt H3 hi f hT=>?_) Æk)
  .let(b,hb,rfl):=iC hi;rw[Qp] at hb;let hb:bs[i+1]? =Α b:=by rw[<-hb];congr 1;lia
   let hib:=(bO.mp hb).1;obtain⟨a,ha⟩:∃a,bs[i]? =Α a:=⟨_,c7 Ô⟩;let s3:ai H3 (upd H3 Tt (.tup [.int (i:Nat),.ref b.2])):=aN hT;let J:=(s2.R f.E).R s3;let Z:=W i a ha;let yk:=W _ b hb;refine ß;apply(_,Á,_,Á,D,_,(i:Int),.ref a.2,Á,Á,aa.of (J _ _ hd),gc Å,_,Á,a.2,b.2,a.1.rw,b.1.rw,_,_,nv a.1.row,nv b.1.row,Á,Á,bz.of (J _ _ Z.1),bz.of (J _ _ yk.1),aa.of (J _ _ Z.2),aa.of (J _ _ yk.2),?_);exact f.step cg Ô s3 ⟨Á,a,b,ha,hb,Á⟩ aX.nil Ä
  .let(ys,s3,qy,Gk,fl):=f.end;let hz:((es.M bu.row).zip ((es.M bu.row).drop 1)).L=ys.L:=by
    symm
   let ey:ys=(((es.M bu.row).zip ((es.M bu.row).drop 1)).M λp=>vz p.1 p.2).M V.bl:=by
    rw[cZ];apply vh hz.symm λi y x h1 h2=>?_;let(ns,(_,a,b,ea,eb,e),_):=fl i y h1;grind
   apply(Y,_,Á,by rw[<-ey];exact aa.of qy,?_);let q:=k H3 (s1.R Ĳ);rw[sD];exact q
end
def AV(h:H y.a=Α (.lst (y.ls.M λx=>V.ref x.a)))(h2:∀x∈y.ls,H x.a=Α ώ):aX H Æz:=λz hz=>by
 rcases aV.mp hz with rfl|hz
 .exact h
 .let(x,j,hz):=lr.mp hz;simp only[lsN,lg] at hz;symm
def kZ(ms:aG)(row:LN):Bool:=match oG ms [row] with
 |some (some _)=>true
 |_=>false
structure He(ms:aG)(rows:bq):Prop where
 short:∀r∈rows,r.L<=8
 lt:∀r∈rows,∀s∈r,s<ms.L
 sg:∀r∈rows,∀s∈r,jT ms s=true
inductive W1(CK CE:Addr)(vs:ay)(H:Hp)(Q:VK)(E':XK):Prop
 |mk (pk:Addr) (ks:List aB) (p:Addr) (es:List bu) (_:vs=[.ref pk,.ref p]) (_:Ŵ ks) (_:xn Í) (_:yQ CE H p es) (_:He Í Ãk) (_:(∀e∈es,oG Í [e.row]≠none)) (_:∀H',ai H H'->Q (.bl ((es.M bu.row).all (kZ Í))) H')
section
variable{P:Pg}{w:Wd}{K:FR}{mg:MG}{base:Heap}{CK CL CS N CV CP CB CE fm:Addr}{C:Cs}
def N9:bQ ["kinds","entries","entry"] ["kinds","entries"] (aY LD):=cJ
def alz(F:bx K "can_be_shown" "can_be_shown" LD f fd)(T:lN K CE ["row","meaning"])(tA:mg "all"=Β)(dD:Ç 4 "display_told" ["kinds","rows"] (G6 CK)):Ì aF 5 f fd ["kinds","entries"] (W1 CK CE):=by
 refine F.ok N9 Â;let(pk,ks,p,es,rfl,hk,hm,O,Y,hd,k):=h;refine⟨_,aE (a0 (dc (wj Á) Ò tA zm (ae (eB (own:=[("entry",2)]) (te:=QU (ic (G6 CK) [] E0 (bo ύ (bo (zH (bo (f7 K š "row") dQ)) dQ)))) Á N9.nd Æy Ê
   (λ_ _ _ _ _=>dy 2 N9.nd) Õ (λ_ _ _ _ _=>QW (IZ (bH dD (ae Ú (ae (eG Áj) ah)))))) ah))),?_⟩
 let hf:=O.dh;refine⟨_,Á,p,Á,⟨_,aa.of O.a⟩,λD hD=>gC (K:=K) (a:=p) (xs:=es.M λe=>V.ref e.a) (cK H D λi y ns=>ns=[]/\∃e,es[i]? =Α e/\y=.bl (kZ Í e.row)) Ď (λi H' _ f=>aa.of (f.E _ _ O.a)) Č ý⟩
 .let(e,J,rfl):=iC hi;let d7:=(bO.mp J).1;let U:=bY J;let j:=(O.l e U).E f.E;apply(Á,eJ ⟨_,Á,_,Á,bh (DE j) T.1 (T.2 _ Ä) (DC e) ⟨(by show 1<=sizeLine;decide),λl IV=>?_⟩⟩);let s1:ai H' (upd H' l (.lst [.ref e.rw])):=aN IV;let Z:(upd H' l (.lst [.ref e.rw])) l=Α (.lst [.ref e.rw]):=aq;generalize upd H' l (.lst [.ref e.rw])=H1 at s1 Z;cases ed:oG Í [e.row] with
  |none=>symm
  |some r=>
   let hrw:=Y.short e.row (b9.mpr ⟨e,U,rfl⟩);apply(pk,ks,⟨l,[⟨e.rw,e.row⟩]⟩,r,Á,(hk.E f.E).E s1,hm,⟨AV Z Às,Ä,Às,Às⟩,(by simp[ck.m];lia),ed,λhs W H2 z s2 ez lz fz=>?_,λW H2 s2=>?_)
   .obtain rfl:x=_:=by simpa using hx
    exact s1 _ _ (DF j)
   .grind
   .obtain rfl:x=_:=by simpa using hx
    intro s hs;let:=Y.lt e.row (b9.mpr ⟨e,U,rfl⟩) s hs;symm
   .exact f.step hD Ô Áe ⟨Á,e,J,by ext kZ;rw[ed,W];rfl⟩ aX.nil Ä
   .exact f.step hD á Áe ⟨Á,e,J,by ext kZ;rw[ed,W];rfl⟩ aX.nil Ä
 .let(ys,s1,fU,j,fl):=f.end;rw[az] at j;let ey:ys=((es.M bu.row).M (kZ Í)).M V.bl:=by
   rw[cZ,cZ];apply vh j λi y x h1 h2=>?_;let(ns,(_,e,ee,rfl),_):=fl i y h1;symm
  apply(D,_,Á,by rw[<-ey];exact aa.of fU,?_);symm
end
def jj(ms:aG):dm->Option (List (LN×LI))
 |[]=>some []
 |l::r=>match iJ ms l,jj ms r with
  |some e,some es=>some (e::es)
  |_,_=>none
theorem alA{ms:aG}{r:dm}:∀{l:LI},l∈r->iJ ms l=Β->jj ms r=Β:=by
 induction r with
 |nil=>intro l h;cases h
 |cons x r j=>
  intro l h e;ext jj;rcases aV.mp h with rfl|h
  .rw[e]
  .rw[j h e];cases iJ ms x <;> rfl
theorem alB{ms:aG}{r:dm}:∀{es:List (LN×LI)},es.L=r.L->(∀(i:Nat)l e,r[i]? =Α l->es[i]? =Α e->iJ ms l=Α e)->jj ms r=Α es:=by
 induction r with
 |nil=>
  intro ms h _;cases ms with
  |nil=>rfl
  |cons _ _=>cases h
 |cons l r z=>
  intro es h k;cases es with
  |nil=>cases h
  |cons m es=>
   ext jj;rw[k 0 l m rfl rfl,z (es:=es) (À h) λi l m j h2=>k (i+1) l m j h2]
def Hf(ms:aG)(nm:LI):Option (List (LN×LI))->Option (LI×List (LN×LI))
 |some es=>if (AS (es.M (·.1))&&(es.M (·.1)).all (kZ ms))=true then some (nm,es) else none
 |none=>none
def Oa(name:LI)(ms:aG)(j m:Option LI)(r:dm):Option (LI×List (LN×LI)):=match j with
 |none=>none
 |some nm=>if m=Α name then Hf ms nm (jj ms r) else none
def book1(name:LI)(ms:aG):Option dm->Option (LI×List (LN×LI))
 |some (l::f::r)=>if r.L<=2048 then Oa name ms (fj (codes "book") l) (fj (codes "for") f) r else none
 |_=>none
def jV(name:LI)(ms:aG)(j:LI):Option (LI×List (LN×LI)):=book1 name ms (jP j)
theorem alC(p:α->β->Prop)[∀x y,Decidable (p x y)](y:β)(f:α->Nat)(R:Nat->Prop)(l:List α):∀(acc:Option Nat),(∀x∈l,R (f x))->(∀m,acc=Α m->R m)->∀m,l.foldl (λacc x=>if p x y then some (f x) else acc) acc=Α m->R m:=by
 induction l with
 |nil=>exact @λacc _ h m e=>h m e
 |cons x l J=>
  intro acc F h m e;apply J _ (λz hz=>F z (aQ _ hz)) (λO j=>?_) m e;dsimp only at j;split at j
  .cases j;exact F x Ä
  .exact h O j
def alD{ms:aG}{name:LI}{n:Nat}(h:jU ms name=Α n):n<ms.L/\jT ms n=true:=by
 delta jU at h;refine alC (λ(p:LI×Nat)(nm:LI)=>p.1=nm) name (λp=>p.2) (λn=>n<ms.L/\jT ms n=true) (ug ms ms.L) none Às (λm e=>(by cases e)) n h;delta ug at hx;let(j,F,rfl):=b9.mp hx;let(z,h2):=jF.mp F;exact(À z,h2)
def alE{ms:aG}{part:LI}{row:LN}(h:xo ms part=Α row):row.L<=8/\∀s∈row,s<ms.L/\jT ms s=true:=by
 delta xo at h;by_cases hc:(pK ms part).L>8\/(pK ms part).Y none=true
 .grind
 .rw[ag hc] at h;let h:=(aO h).symm;subst h;apply(?_,λs hs=>?_)
  .symm
  .let(o,j,rfl):=b9.mp hs;cases o with
   |none=>symm
   |some n=>
    delta pK at j;let(x,_,e):=b9.mp j;exact alD e
def Ob(h:iJ ms line=Α e):e.1.L<=8/\∀s∈e.1,s<ms.L/\jT ms s=true:=by
 delta iJ at h;split at h
 .split at h
  .symm
  .rename_i row j;split at h
   .let h:=(aO h).symm;subst h;exact alE j
   .symm
 .cases h
structure qO where
 a:Addr
 dx:Addr
 nm:Addr
 el:Addr
 name:LI
 es:List bu
def W3(b:qO):List (Str×V):=[("name",.ref b.nm),("entries",.ref b.el)]
def W4(b:qO):(W3 b).Q ("entries":Str)=Α (.ref b.el):=(fw È).R ij
structure yR(fm CE:Addr)(H:Hp)(b:qO):Prop where
 a:H b.a=Α (.ins fm b.dx (W3 b))
 n:H b.nm=Α (.lst (iv b.name))
 e:yQ CE H b.el b.es
def yR.same{fm CE:Addr}{H H':Hp}{b:qO}(h:yR fm CE H b)(s:ai H H'):yR fm CE H' b:=⟨s _ _ h.a,s _ _ h.n,h.e.E s⟩
def qO.m(b:qO):LI×List (LN×LI):=(b.name,b.es.M bu.m)
structure vA(CL CK:Addr)(H:Hp)(l:ve):Prop where
 lies:aX H Ãp
 dh:l.kinds.L<=66000
 look:∀k∈l.kinds,iW k.m.look
 ms:xn Ñ
 sh:∀rows,(∀r∈rows,∀s∈r,jT Ñ s=true)->oG Ñ rows≠none
def vA.same(h:vA CL CK H l)(s:ai H H'):vA CL CK H' l:=⟨h.lies.E s,h.dh,h.look,h.ms,h.sh⟩
def vA.ks(h:vA CL CK H l):pB CK H l.kl l.kinds:=⟨ajI h.lies,ajJ h.lies,by let:=h.dh;lia,h.look⟩
inductive W5(K:FR)(CL CK CB CE fm:Addr)(vs:ay)(H:Hp)(Q:VK)(E:XK):Prop
 |mk (l:ve) (ap:Addr) (bI:LI) (_:vs=[.ref l.a,.ref ap]) (_:vA CL CK H l) (_:ã ap (iv bI)) (_:bI.L<=66000) (_:(∀x,jV l.name Ñ bI=Α x->∀H' b,ai H H'->qO.m b=x->yR fm CE H' b->He Ñ Ü->Q Çl H')) (_:(jV l.name Ñ bI=Β->No E CB H))
section
variable{P:Pg}{w:Wd}{K:FR}{mg:MG}{base:Heap}{CK CL CS N CV CP CB CE fm:Addr}{C:Cs}
def AW:bQ ["locker","text","lines","name","numbers","entries","line"] ["locker","text"] (aY Lv):=cJ
def alF{f:Addr}{fd:FD}(F:bx K "read_book" "read_book" Lv f fd)(X:ϓ "NoBook" CB N)(TL:lN K CL ["name","kinds"])(tL:mg "len"=Β)(cT:Cn mg "TITLE_LINES" (.int 2))(cM:Cn mg "MOST_ENTRIES" (.int 2048))(dW:Ç 2 "whole_lines" ["text"] (Mu K)) (dN:Ç 4 "name_behind" ["title","line"] (Mt K)) (dU:Ç 1 "numbers_of_signs" ["kinds"] (WT CK)) (dE:č ę 3 "read_entry" ["line","numbers"] (N7 K CB CE))(dO:Ç 1 "are_in_order_books" ["entries"] (WZ CE)) (dC:Ç 5 "can_be_shown" ["kinds","entries"] (W1 CK CE)) (dB:ć "Book" fm ["name","entries"]):
  ba P w K mg base ę 6 f fd ["locker","text"] (W5 K CL CK CB CE fm):=by
 let(fE,fdE,GE,mE,kE,bE):=dE;refine F.rK AW Â;let(l,ap,O,rfl,hL,hP,hl,k1,k2):=h;let CM:dJ 3 _:=hr.mono Ù;refine⟨_,aD (cy 2 AW.nd (bH (hr:=hr) dW Ŝ))
  (aD (dv (PW.pt (pw_or Æs (pw_or1 (qe (aby xT xT (cj cT) þ (eP rl (cj cT) (cj cM))))))) Û eA)
  (aD (cy 3 AW.nd (bH (hr:=hr) dN (ae Ez (ae Àx ah))))
  (aD (dv (PW.pt (pw_or (oS (rk ú)) (pw_or1 (cV (JF hr.units) (bH (hr:=hr) dN (ae Ez (ae Àx ah))) ċ (bW _))))) Û eA)
  (aD (cy 4 AW.nd (bH (hr:=hr) dU Äx))
  (aD (SW (i:=5) (own:=[("line",6)]) (g:=qf 6) (tt:=BV) (te:=ic (N7 K CB CE) [] E (bo (aA 6) (bo Ãv dQ))) rfl yd AW.nd rfl rfl Ò (eW (xY xZ è (xX (cj cT)) xW)) Ê
   (λ_ _ _ _ _=>dy 6 AW.nd) Õ (λ_ _ _ _ _=>mG GE CM rfl mE kE bE .nil rJ (ae Ãr Ϭ)))
  (aD (dv (PW.pt (pw_or (qe (jH (bH (hr:=hr) dO Ŭ))) (pw_or1 (qe (jH (bH (hr:=hr) dC (ae ċ Ŭ)))))))
   (Û) eA)
  (aE (a0 (qB dB hr (ae ú Ŭ)))))))))),?_⟩
 apply(_,Á,ap,O,Á,hP,by lia,λH1 v s1 U=>?_);let MN:∀L,jP O=Α L->∀w∈L,w.L<=100000:=λL e=>by
  delta jP at e;split at e
  .let e:=aO e;subst e;apply λw hw=>?_;let:=yq 10 O w (Bp _ hw);lia
  .symm
 let el:jV l.name Ñ O=book1 l.name Ñ (jP O):=rfl;generalize jV l.name Ñ O=bk at el k1 k2;cases ew:jP O with
 |none=>
  rw[ew] at U el;let U:=U;subst U;exact(_,Á,_,Á,lJ (gX ((k2 el).go s1)))
 |some L=>
  let m4:=MN L ew;rw[ew] at U el;let(p,qs,rfl,qY,hp,qF,fr):=U;let xc:=qF.len;apply(_,Á,_,Á,nW ⟨_,Á,p,_,Á,.inl (aa.of hp),?_⟩);rw[az,xc];refine⟨_,_,Á,Á,_,Á,bc Ū Ū⟩
  case' refine_2=>
   let h1:¬(2:Int)<=((L.L:Nat):Int):=À h1
   apply(_,Á,lJ (gX ((k2 (el.R ?_)).go s1)))
   match L,h1 with
   |[],_=>rfl
   |[_],_=>rfl
   |a::b::c,h1=>exact absurd (by simp only[df];lia) h1
  simp at h1;obtain⟨la,lb,r,rfl⟩:∃a b c,L=a::b::c:=by
   match L,h1 with
   |[],h1=>exact absurd h1 Ä
   |[_],h1=>exact absurd h1 Ä
   |a::b::c,_=>exact(a,b,c,Á)
  cases qF with
  | @cons q l0 qs0 r0 hq qF=>
  cases qF with
  | @cons q2 l2 qs r2 yi vH=>
  let vH:eE H1 qs r:=vH;let xc:=vH.len;refine⟨_,_,Á,Á,_,_,Á,Á,_,Á,bc Ár Ár⟩
  .let h2:¬r.L<=2048:=by
    grind
   exact gX ((k2 (el.R (ag h2))).go s1)
  let h2:r.L<=2048:=by
   grind
  let el:=el.R (af h2);apply⟨_,Á,p,_,0,V.ref q,Á,Á,aa.of hp,gc (j:=0) Á,"book",q,la,Á,by decide,aa.of hq,m4 la Ä,λH3 vn s3 hn=>?_⟩;let qC:=s1.R s3;generalize fj (codes "book") la=nb at hn el;cases nb with
  |none=>
   let hn:=hn;subst hn;exact(_,Á,_,Á,lJ (gX ((k2 el).go qC)))
  |some nm=>
  let(an,rfl,Aa,mz):=hn;apply⟨_,Á,_,Á,nW ⟨_,Á,p,_,1,V.ref q2,Á,Á,aa.of (s3 _ _ hp),gc (j:=1) Á,"for",q2,lb,Á,by decide,aa.of (s3 _ _ yi),m4 lb Ä,λH4 vf s4 Z=>?_⟩⟩;let o6:=qC.R s4;let L4:=hL.E o6;apply(_,Á,bh (C8 L4.lies) TL.1 (TL.2 _ Ä) (aim l) ?_);let Hg:H4 l.nm=Α (.lst (iv l.name)):=L4.lies (l.nm,_) (by simp[tK]);generalize fj (codes "for") lb=nf at Z el;obtain⟨d,fU,fY,qy⟩:∃d,Dp K H4 vf d/\SeqAt.shaped d=true/\PyData.eqv d (.list (l.name.M PyData.int))=decide (nf=Α l.name):=by
   cases nf with
   |none=>
    let Z:=Z;subst Z;exact(_,.aK,Á,Á)
   |some x=>
    let(c,rfl,_,hc):=Z;apply(_,.lst (aa.of hc) (rM x),shaped_ints _,?_);show PyData.eqvAll _ _=_;rw[ye];simp
  apply(d,_,fU,.lst (aa.of Hg) (rM _),fY,shaped_ints _,_,Á,?_);rw[qy];apply bc (λY=>?_) (λY=>?_)
  .simp at Y;exact gX ((k2 (el.R (ag Y))).go o6)
  simp at Y;let el:=el.R (af Y);apply(_,Á,bh (C8 L4.lies) TL.1 (TL.2 _ Ä) (Ga l) ⟨l.kl,l.kinds,Á,L4.ks,λH5 pn n5=>?_⟩);let w8:=o6.R n5.1;let hp5:=n5.1 _ _ (s4 _ _ (s3 _ _ hp));apply(_,Á,_,Á,p,_,Á,aa.of hp5,λc hc=>?_);rw[show oY ((q::q2::qs).M V.ref) (some 2) none=qs.M V.ref from(CY _ (i:=2) Ä).R rfl];let s6:=aN (o:=.lst Äk) hc;let js:(upd H5 c Ē) c=Α Ē:=aq;generalize upd H5 c Ē=H6 at s6 js;let yw:=w8.R s6;let alH:=vH.E (((s3.R s4).R n5.1).R s6);let alI:=s6 _ _ n5.2.2;refine⟨c,Á,⟨_,aa.of js⟩,λD hD=>gC (K:=K) (a:=c) (xs:=qs.M V.ref) (cK H6 D λi y ns=>∃b:bu,(∀z,r[i]? =Α z->iJ Ñ z=Α b.m)/\y=.ref b.a/\ns=pL CE b) Ď
     (λi H7 _ f=>aa.of (f.E _ _ js)) (λi y H7 hi f=>?_) (λH7 f=>?_)⟩
  .rw[bU] at hi;cases eq:qs[i]? with
   |none=>symm
   |some qi=>
    rw[eq] at hi;let ey:=aO hi;subst ey;let d7:=(bO.mp eq).1;let(q',_,J,h'):=alH.at (j:=i) Å;rw[bU,eq] at J;let J:=aO J;injection J with J;subst J;let rB:r[i]? =Α (r.D i []):=by
     symm
    let xf:=bY rB;apply(Á,eJ ⟨_,Á,_,Á,qi,pn,l.kinds.M aB.m,r.D i [],Á,aa.of (f.E _ _ h'),m4 _ (aQ _ (aQ _ xf)),f.E _ _ alI,λm em H8 en W ek JX j7=>?_,λen=>?_⟩)
    .apply f.step hD Ô W ⟨en,λz hl=>?_,Á,Á⟩ JX λx hx e=>f.has (by rw[<-e];exact j7 x hx);symm
    .exact(k2 (by rw[el,alA xf en];rfl)).go (yw.R f.E)
  .let(ys,s7,hd7,W6,fl):=f.end;rw[az] at W6;let(es,e1,r1,l1):=yA (v:=λb:bu=>V.ref b.a) (nd:=pL CE) (R:=λi b=>∀z,r[i]? =Α z->iJ Ñ z=Α b.m) fl;subst e1;rw[az] at W6;let rQ:∀(i:Nat)(b:bu),es[i]? =Α b->∃z,iJ Ñ z=Α b.m:=λi b hb=>by
    grind
   let ees:jj Ñ r=Α (es.M bu.m):=alB Å λi z m h1 h2=>by
    grind
   rw[ees] at el;let emr:(es.M bu.m).M (·.1)=es.M bu.row:=by
    rw[cZ];rfl
   let el:bk=if (AS Ãk &&(es.M bu.row).all (kZ Ñ))=true then some (nm,es.M bu.m) else none:=by
    rw[<-emr];exact el
   let Au:=yw.R s7;let Oc:yQ CE H7 D es:=⟨hd7,l1,by simp_all⟩;let vB:He Ñ Ãk:=by
    apply(λrow AX=>?_,λrow AX s hs=>?_,λrow AX s hs=>?_)
    all_goals
     let(b,hb,rfl):=b9.mp AX;let(i,hi,e):=qV hb;let(z,J):=rQ i b (by rw[<-e];exact c7 hi);let:=Ob J
    .symm
    .symm
    .symm
   apply(_,Á,D,es,Á,Oc,λH8 W=>⟨_,Á,bc (λho=>?_) (λho=>?_)⟩)
   .simp at ho;rw[ho,lU,ag Ù] at el;exact gX ((k2 el).go (Au.R W))
   simp at ho;let W7:=Au.R W;let L8:=hL.E W7;refine⟨_,Á,bh (C8 L8.lies) TL.1 (TL.2 _ Ä) (Ga l) ⟨_,Á,l.kl,l.kinds,D,es,Á,L8.ks,L8.ms,Oc.E W,vB,λe he=>L8.sh [e.row] (λr hr s hs=>by
     obtain rfl:r=e.row:=À hr
     exact vB.sg _ (b9.mpr ⟨e,he,Á⟩) s hs),λH9 s9=>⟨_,rfl,bc Ġ Ġ⟩⟩⟩
   .let hd:(es.M bu.row).all (kZ Ñ)=false:=by simpa using hd
    rw[hd,zj,ag Ù] at el;exact gX ((k2 el).go (W7.R s9))
   let hd:(es.M bu.row).all (kZ Ñ)=true:=À hd
   rw[ho,hd,Qm,af rfl] at el;let Od:=W.R s9;exact(_,Á,_,Á,wZ Á λx dx Ha hx jf aU ea sa=>(k1 _ el Ha ⟨x,dx,an,D,nm,es⟩ ((Au.R Od).R sa) Á ⟨ea,sa _ _ (Od _ _ (s7 _ _ (s6 _ _ (n5.1 _ _ (s4 _ _ mz))))),Oc.E (Od.R sa)⟩ vB))
end
def ni(rows:bq)(i:Nat):Nat:=(rows.D i []).L
def AY(rows:bq)(a b:Bool)(n:Nat)(i:Nat):Bool:=decide (ni rows i=n)||((a||b)&&decide (n<ni rows i))
def qP(rows:bq)(g:iP):LN:=(List.range rows.L).J (AY rows g.above g.below g.flags.L)
inductive Oe(C:Cs)(fm CE:Addr)(vs:ay)(H:Hp)(Q:VK)(E':XK):Prop
 |mk (b:qO) (g:cz) (_:vs=[.ref b.a,.ref g.a]) (_:yR fm CE H b) (_:Lies H Æw) (_:∀H' p,ϩ (.lst (iv (nv (qP Ü g.m))))->Q ĝ H')
abbrev W8(K:FR):ay->Hp->VK->Prop:=λxs H Q=>∃p ys,xs=[.ref p]/\(ã p ys\/bz K H p ys)/\Q (.int ((ys.L:Nat):Int)) H
section
variable{P:Pg}{w:Wd}{K:FR}{mg:MG}{base:Heap}{CK CL CS N CV CP CB CE fm:Addr}{C:Cs}
def yS:bQ ["book","glimpse","seen","may_be_longer","lengths","entry","number","length"] ["book","glimpse"] (aY LG):=cJ
def alM(F:bx K "entries_in_doubt" "entries_in_doubt" LG f fd)(z:ma K C)(Z:lN K fm ["name","entries"])(TE:lN K CE ["row","meaning"])(tL:mg "len"=Β)(tE:mg "enumerate"=Β):Ì aF 1 f fd ["book","glimpse"] (Oe C fm CE):=by
 refine F.ok yS Â;let(b,g,rfl,J,O,k):=h;refine⟨_,aD (cy 2 yS.nd (dc gf Ò tL PySem.boot_len (ae Äv ah)))
  (aD (cy 3 yS.nd (QX ŗ (sO ŗ)))
  (aD (uW (i:=4) (own:=[("entry",5)]) (te:=rq (W8 K) (bo (f7 K (aA 5) "row") dQ)) rfl yS.nd rfl rfl Ò (eW ċ) Ê
   (λ_ _ _ _ _=>dy 5 yS.nd) Õ (λ_ _ _ _ _=>dc gf Ò tL PySem.boot_len (ae (bg Äl rfl) ah)))
  (aE (a0 (eB (own:=[("number",6),("length",7)]) (g:=g2 K 6 7) (tt:=Ja (nP (bV oW Èw š)) (EA (tB Ş) (nP (bV (gu λi j=>.bl (decide (i>j))) Èw š)))) (te:=aA 6) rfl yS.nd
   (lI Ò tE Ϭ) Ê
   (λ_ _ _ _ _=>iM 6 7 yS.nd)
   (λ_ _ _ _ _=>qj (PW.pt (pw_or (cV ir Åt è (bW _)) (pw_or1 (PW.pt (pw_and (jH ú) (pw_and1 (cV wa Åt è (bW _))))))))) (λ_ _ _ _ _=>pv 6)))))),?_⟩
 let hf:=J.e.dh;apply(_,Á,bh O.ga z.cG z.wU (wR g) ⟨g.l,_,Á,.inl (aa.of O.fl),?_⟩);dsimp only;rw[az];apply Ta g.above g.below (λK q=>⟨_,Á,bh O.ga z.cG z.UF (UD g) q⟩) (λ_ K q=>⟨_,Á,bh O.ga z.cG z.UG (UE g) q⟩) ?_;apply(_,Á,bh J.a Z.1 (Z.2 _ Ä) (W4 b) ⟨b.el,Á,⟨_,aa.of J.e.a⟩,λD hD=>gC (K:=K) (a:=b.el) (xs:=b.es.M λe=>V.ref e.a) (fk H D λi=>((ni Ü i:Nat):Int)) Àv (λi H' _ f=>aa.of (f.1 _ _ J.e.a)) Č (λH1 f=>?_)⟩)
 .let(e,he,rfl):=iC hi;let d7:=(bO.mp he).1;let hl:=(J.e.l e (bY he)).E f.1;apply(Á,eJ ⟨_,Á,bh (DE hl) TE.1 (TE.2 _ Ä) (DC e) ⟨e.rw,_,Á,.inl (aa.of (DF hl)),?_⟩⟩);apply fk.step hD Ô f ĵ ?_;ext ni;symm
 .let hd:=f.2;rw[az] at hd;let s1:=f.1;refine⟨_,Á,D,_,Á,aa.of hd,λY U=>l7 (K:=K) (a:=D) (xs:=iv ((List.range b.es.L).M λi=>((ni Ü i:Nat):Int))) (mf H1 Y (AY Ü g.above g.below g.flags.L)) (mf.zero U) (λi H' _ f=>aa.of (f.1 _ _ hd)) Áq Æk⟩
  .let d7:=(bO.mp hi).1;rw[fb,az,gq] at d7;let ev:v=.int ((ni Ü i:Nat):Int):=by
    symm
   subst ev;let W:ai H' (Ϩ (.tup [.int (i:Nat),.int ((ni Ü i:Nat):Int)])):=aN hT;refine ñ;generalize upd H' Tt (.tup [.int (i:Nat),.int ((ni Ü i:Nat):Int)])=H4 at W;refine or_val (decide (ni Ü i=g.flags.L)) ((g.above||g.below)&&decide (g.flags.L<ni Ü i)) (λK q=>⟨_,Á,_,Á,Á,_,Á,by rw[my];exact q⟩)
    (λ_ K q=>and_val (g.above||g.below) (decide (g.flags.L<ni Ü i)) (λK q=>⟨_,rfl,_,rfl,q⟩) (λ_ K q=>⟨_,rfl,_,rfl,_,_,rfl,rfl,_,rfl,?_⟩) q) (bc Ï Ï)
   .symm
   .exact(_,Á,f.yes U á W hc)
   .exact f.no W hc
  .let h3:=f.2;rw[fb,az,gq] at h3;apply k H3 Y ⟨s1.R f.1,s1.free U,?_⟩;rw[h3];ext qP cz.m;simp
end
def ia(l:LN):Nat:=l.foldl (λa b=>a*b) 1
inductive W9(vs:ay)(H:Hp)(Q:VK)(E':XK):Prop
 |mk (p:Addr) (l:LN) (_:vs=[.ref p]) (_:H p=Α (.lst Èa)) (_:(∀n∈l,n<=100000)) (_:Q (.int ((ia l:Nat):Int)) H)
def uh(s:Nat):LN:=if s=2 then [0,1] else [s]
inductive Xa(C:Cs)(vs:ay)(H:Hp)(Q:VK)(E':XK):Prop
 |mk (p:eS) (_:vs=[.ref p.a]) (_:Lies H Ám) (_:∀H' q,qx H H' q (.lst (iv (nv Çv)))->Q Èy H')
section
variable{P:Pg}{w:Wd}{K:FR}{mg:MG}{base:Heap}{CK CL CS N CV CP CB CE fm:Addr}{C:Cs}
def Hh:bQ ["numbers","whole","number"] ["numbers"] (aY LH):=cJ
def alN(F:bx K "product" "product" LH f fd):Ì aF 1 f fd ["numbers"] W9:=by
 refine F.ok Hh Â;let(p,l,rfl,j,m,k):=h;refine⟨_,aD (cy 1 Hh.nd bp)
  (aD (ϒ Åo (dy 2 Hh.nd) (aE (cy 1 Hh.nd (eP abu â è))))
  (aE (a0 â))),?_⟩
 apply(_,Á,p,Á,⟨_,aa.of j⟩,xR (K:=K) (a:=p) (xs:=iv (nv l)) (λi σ H'=>∃v,σ=[some ĝ,some (.int ((ia (l.take i):Nat):Int)),v]/\H'=H) ⟨none,Á,Á⟩ (λi σ H' _ ⟨_,_,e⟩=>by rw[e];exact aa.of j) ?_ ?_)
 .rintro i x σ H' hi ⟨v,rfl,rfl⟩;let(z,hz,rfl):=om hi;let J:=m z (bY hz);apply(_,Á,_,Á,_,_,Á,Á,.inr ⟨by lia,by lia⟩,some (.int ((z:Nat):Int)),?_,Á);rw[take_snoc hz];ext ia;simp
 .rintro σ H' ⟨v,rfl,rfl⟩;refine Ĝ;symm
def alO:bQ ["plate"] ["plate"] (aY LK):=cJ
def alP(F:bx K "sides_of" "sides_of" LK f fd)(T:ma K C)(z:Cn mg "FRONT" ő)(cB:Cn mg "BEHIND" ŧ)(J:Cn mg "UNKNOWN_SIDE" (.int 2)):Ì aF 1 f fd ["plate"] (Xa C):=by
 refine F.ok alO Â;let(p,rfl,m,k):=h;apply(_,aE (a0 (sP (cV ir ś (cj J) (bW _)) (eG (ae (cj z) ϸ)) (eG (ae ś ah)))),?_);refine⟨_,Á,bh m.pl T.cP T.L6 (UC p) ĺ⟩;rw[show V.int 2=V.int ((2:Nat):Int) from rfl,my];let k:=k;delta uh at k;refine bc Ï Ï
 .rw[af Å] at k;exact(by show 2<=sizeLine;decide,λq j=>k _ q ⟨aN j,j,aq⟩)
 .rw[ag Å] at k;exact(_,Á,bh m.pl T.cP T.L6 (UC p) ⟨by show 1<=sizeLine;decide,λq j=>k _ q ⟨aN j,j,aq⟩⟩)
end
def pN(rows:bq)(c:LN):bq:=rows.flatMap λrow=>c.M λn=>row++[n]
def lQ(cs:bq):bq:=cs.foldl pN [[]]
def ui(cs:bq):bq:=if cs.Y []=true then [] else lQ cs
theorem alQ(l:LN)(a:Nat):l.foldl (λa b=>a*b) a=a*ia l:=by
 induction l generalizing a with
 |nil=>simp[ia]
 |cons x l j=>
  ext ia;grind
def Of(a b:LN):ia (a++b)=ia a*ia b:=by
 rw[<-alQ];ext ia;simp
theorem alR(h:∀n∈l,1<=n):1<=ia l:=by
 induction l with
 |nil=>exact bw _
 |cons x l z=>
  let j:=h x Ä;let h2:=z λn m=>h n (aQ _ m);show 1<=ia ([x]++l);rw[Of];let e:ia [x]=x:=Nat.one_mul x;rw[e];exact Nat.mul_pos j h2
theorem Og(rows:bq)(c:LN):(pN rows c).L=rows.L*c.L:=by
 ext pN;induction rows with
 |nil=>simp
 |cons r rows j=>rw[Em,mq,j,az,df,Nat.succ_mul,Nat.add_comm]
def Hi(cs:bq)(c:LN):lQ (cs++[c])=pN (lQ cs) c:=by
 ext lQ;simp
def Oh(cs:bq):(lQ cs).L=ia (cs.M List.length):=by
 refine snoc_ind (P:=λcs=>(lQ cs).L=ia (cs.M List.length)) Á Áy cs;rw[Hi,Og,ih,bZ,Of];congr 1;exact(Nat.one_mul _).symm
def alS(h:∀n∈l,1<=n)(i:Nat):ia (l.take i)<=ia l:=by
 let j:1<=ia (l.drop i):=alR λn m=>h n (Qs m);let h2:ia l=ia (l.take i)*ia (l.drop i):=by rw[<-Of,Iw]
 rw[h2];exact Nat.le_mul_of_pos_right _ j
theorem alT{H:Hp}{ls:List c6}:(∀x∈ls,H x.a=Α ώ)->eE H (ls.M c6.a) (ls.M λx=>nv x.ns):=by
 induction ls with
 |nil=>exact @λ_=>.nil
 |cons x ls j=>
  intro h;exact .cons (h x Ä) (j λz hz=>h z (aQ _ hz))
def Oi(cs:bq):∀row∈lQ cs,row.L=cs.L:=by
 apply snoc_ind (P:=λcs=>∀row∈lQ cs,row.L=cs.L) (λrow h=>?_) (λl x j row h=>?_) cs
 .let:row=[]:=by simpa [lQ] using h
  rw[this];rfl
 .rw[Hi] at h;delta pN at h;let(r,hr,h):=lr.mp h;let(n,_,rfl):=b9.mp h;rw[mq,j r hr,mq];rfl
inductive Xb(vs:ay)(H:Hp)(Q:VK)(E':XK):Prop
 |mk (y:ck) (_:vs=[.ref y.a]) (_:aX H Æz) (_:y.ls.L<=100) (_:(∀x∈y.ls,x.ns.L<=100000)) (_:(y.m.Y []=false->ia Ź<=1024)) (_:∀H' z,ai H H'->ck.m z=ui y.m->aX H' (eV z)->ji H (eV z)->Q Äz H')
section
variable{P:Pg}{w:Wd}{K:FR}{mg:MG}{base:Heap}{CK CL CS N CV CP CB CE fm:Addr}{C:Cs}
def xp:bQ ["choices","rows","choice","longer","row","number"] ["choices"] (aY LJ):=cJ
inductive RwI(y:ck)(H:Hp)(i:Nat)(σ:L2.St)(H':Hp):Prop
 |mk (z:ck) (v2 v3 v4:Option V) (_:σ=[some Ày,some Äz,v2,v3,v4,none]) (_:ai H H') (_:aX H' (eV z)) (_:ji H (eV z)) (_:z.m=lQ Ÿ)
inductive RwJ(y z:ck)(c:c6)(g:Addr)(H3 H:Hp)(j:Nat)(σ:L2.St)(H':Hp):Prop
 |mk (v4:Option V) (ls:List c6) (_:σ=[some Ày,some Äz,some (.ref c.a),some (.ref g),v4,none]) (_:ai H3 H') (_:aX H' (eV ⟨g,ls⟩)) (_:(∀x∈ls,x.a≠g)) (_:(∀x∈ls,ji H (lsN x))) (_:ls.M c6.ns=pN (z.m.take j) c.ns)
def alW{f:Addr}{fd:FD}(F:bx K "all_rows" "all_rows" LJ f fd):Ì aF 1 f fd ["choices"] Xb:=by
 refine F.ok xp Â;let(y,rfl,hy,WE,sX,g8,k):=h;let hu:A.units+3+128<cLine:=by let:=hr.un;exact oN Ä this
 refine⟨_,aD (dv (cV (J4 hu) Ļ Ú (by with_unfolding_all rfl)) (aE (a0 Ļ)) eA)
  (aD (cy 1 xp.nd (eG Äw))
  (aD (ϒ Åo (dy 2 xp.nd) (aD (cy 3 xp.nd Ļ)
   (aD (ϒ Æy (dy 4 xp.nd) (aE (sQ (sW PySem.F.plainAttrs_list PySem.F.slot_list_extend PySem.F.type_list_extend RG ú (ae
    (eB (own:=[("number",5)]) (te:=bV RI Ãv (zH Èu)) rfl xp.nd (eW è) Ê
     (λ_ _ _ _ _=>dy 5 xp.nd) Õ (λ_ _ _ _ _=>eP RJ ĸ (eG Ŭ))) ah)))))
   (aE (cy 1 xp.nd ú)))))
  (aE (a0 â)))),?_⟩
 let qL:=jS hy;apply(du _,λl u6=>?_);let J:ai H (Ϣ ä):=aN u6;let ju:(Ϣ ä) l=Α ä:=aq;generalize upd H l ä=H1 at J ju;let alX:=alT λx hx=>J _ _ (m6 hy hx);let alY:H1 y.a=Α (.lst ((y.ls.M c6.a).M V.ref)):=by
  rw[cZ];exact J _ _ qL
 apply(_,Á,y.a,_,_,.list [],Á,aa.of alY,WQ alX,.lst (aa.of ju) .nil,λd hd=>?_,Á,_,Á,?_)
 .let(x,_,rfl):=b9.mp hd;exact shaped_ints x
 rw[any_empty];let lF:(y.ls.M λx=>nv x.ns).Y []=y.m.Y []:=by
  rw[pW,En,En];ext ck.m;simp
 rw[lF];refine bc Ï Ï
 .apply(du _,λp hp=>?_);apply k _ ⟨p,[]⟩ (J.R (aN hp)) ?_ (AV aq Ä) (Dc (J.free hp) Ä);ext ui;rw[af hc];rfl
 let hc:y.m.Y []=false:=À hc
 let alZ:=g8 hc;let al0:∀n∈y.m.M List.length,1<=n:=λn hn=>by
  grind
 let GH:∀i,(lQ Ÿ).L<=1024:=λi=>by
  rw[Oh,List.map_take];exact gS (alS al0 i) alZ
 let ek:ui y.m=lQ y.m:=by ext ui;rw[ag (by assumption)]
 rw[ek] at k;apply(du _,λe he=>⟨by show 1<=sizeLine;decide,λr ue=>?_⟩);let hre:r≠e:=λz=>by rw[z,aq] at ue;cases ue
 let s2:ai H1 (upd (upd H1 e ä) r (.lst [.ref e])):=(aN he).R (aN ue);let Xc:aX (upd (upd H1 e ä) r (.lst [.ref e])) (eV ⟨r,[⟨e,[]⟩]⟩):=AV aq λx hx=>by
  obtain rfl:x=_:=À hx
  rw[ao hre.symm,aq];rfl
 generalize upd (upd H1 e ä) r (.lst [.ref e])=H2 at s2 Xc;let fc:=J.R s2;refine⟨_,Á,y.a,Á,⟨_,aa.of (fc _ _ qL)⟩,xR (K:=K) (a:=y.a) (xs:=y.ls.M λx=>V.ref x.a) (RwI y H)
  ⟨⟨r,[⟨e,[]⟩]⟩,none,none,none,rfl,fc,Xc,Dc (J.free ((aN he).free ue)) Às,rfl⟩ (λi σ H' _ h=>(by let(_,_,_,_,_,O):=h;exact aa.of (O _ _ qL))) ?_ ?_⟩
 .obtain rfl:x=_:=by simpa using hx
  exact λw hw=>(by simp only[lsN,lg] at hw;subst hw;exact J.free he)
 .rintro i x σ W hi ⟨z,v2,v3,v4,rfl,O,hz,DH,Z⟩;let(c,jv,rfl):=iC hi;let zU:=bY jv;let Ac:=O _ _ (m6 hy zU);let gB:=sX c zU;let sj:y.m[i]? =Α c.ns:=by ext ck.m;rw[bU,jv];rfl
  let Xd:lQ (y.m.take (i+1))=pN z.m c.ns:=by rw[take_snoc sj,Hi,Z]
  let BU:=GH (i+1);rw[Xd] at BU;apply(du _,λg Oj=>?_);let s4:ai W (upd W g ä):=aN Oj;let hgg:(upd W g ä) g=Α ä:=aq;refine⟨_,Á,z.a,Á,⟨_,aa.of (s4 _ _ (jS hz))⟩,xR (K:=K) (a:=z.a) (xs:=z.ls.M λx=>V.ref x.a) (RwJ y z c g W H)
   ⟨v4,[],rfl,s4,AV hgg Ä,by simp,by simp,by rw[List.take_zero];rfl⟩ (λj σ H' _ h=>(by let(_,_,_,U):=h;exact aa.of (U _ _ (jS hz)))) ?_ ?_⟩
  .rintro j x σ H4 hj ⟨v4,ls,rfl,U,Hj,Al,Xe,Hk⟩;let(r,Xf,rfl):=iC hj;let xf:=bY Xf;let atw:r.ns.L<=1000:=by
    let Y:r.ns∈z.m:=by ext ck.m;exact b9.mpr ⟨r,xf,Á⟩
    rw[Z] at Y;let h2:=Oi _ _ Y;grind
   let GO:=U _ _ (m6 hz xf);let Xg:=U _ _ Ac;let Xh:=jS Hj;apply(_,Á,.inl ⟨Á,_,aa.of Xh⟩,_,Á,c.a,Á,⟨_,aa.of Xg⟩,λD hD=>gC (K:=K) (a:=c.a) (xs:=iv (nv c.ns)) (jz H4 D λi=>r.ns++[c.ns.D i 0]) Ď (λi H' _ f=>aa.of (f.E _ _ Xg)) (λn v H' hi f=>?_) (λH5 f=>?_))
   .let(m,hm,rfl):=om hi;let AJ:=(bO.mp hm).1;apply(Á,eJ ⟨_,Á,_,Á,(by show 1<=sizeLine;decide),λq hq=>⟨r.a,q,_,_,Á,Á,(aN hq) _ _ (f.E _ _ GO),aq,?_,λq2 yi=>?_⟩⟩)
    .rw[fb,jR];exact qU (g9 (by grind))
    .apply jz.step hD Ô f ((aN hq).R (aN yi)) ((aN hq).free yi) ?_;rw[aq,getD_at hm];simp
   .let(d,Ad,s6,Xi,jJ,Kr):=jz.end hD f;rw[fb,jR] at Xi;let hg5:=s6 _ _ Xh;let ub:∀x∈d.ls,x.a≠g:=λx hx z=>by
     let Y:=Kr (x.a,_) (by ext eV;exact aQ _ (lr.mpr ⟨x,hx,by simp[lsN];rfl⟩));symm
    let al4:d.m=c.ns.M λn=>r.ns++[n]:=by
     rw[Xi];exact xj (l:=c.ns) (g:=λn=>r.ns++[n]) (d:=0)
    let et:pN (z.m.take (j+1)) c.ns=ls.M c6.ns++d.m:=by
     let e1:z.m[j]? =Α r.ns:=by ext ck.m;rw[bU,Xf];rfl
     rw[take_snoc e1,Hk,al4];ext pN;simp
    apply(g,D,_,_,Á,Á,hg5,(by rw[<-Ad];exact jS jJ),?_,_,ls++d.ls,Á,fu (U.R s6) Oj,AV ?_ ?_,?_,?_,?_)
    .let Y:=cw List.length et;rw[mq,az,iI] at Y;let h2:(pN (z.m.take (j+1)) c.ns).L<=1024:=by
      rw[Og];rw[Og] at BU;apply gS (Nat.mul_le_mul_right _ ?_) BU;grind
     rw[az,az];exact qU (g9 Ô)
    .rw[aq,bZ]
    .intro x hx;rcases gM.mp hx with hx|hx
     .rw[ao (Al x hx)];exact s6 _ _ (m6 Hj hx)
     .rw[ao (ub x hx)];exact m6 jJ hx
    .grind
    .intro x hx;rcases gM.mp hx with hx|hx
     .symm
     .exact λw hw=>(O.R U).free (Kr w (by ext eV;exact aQ _ (lr.mpr ⟨x,hx,hw⟩)))
    .rw[bZ,et];rfl
  .rintro σ H4 ⟨v4,ls,rfl,U,Hj,Al,Xe,Hk⟩;apply(_,Á,⟨g,ls⟩,_,_,_,Á,O.R U,Hj,Dc (O.free Oj) Xe,?_);rw[az,<-iI,nE] at Hk;rw[Xd];exact Hk
 .rintro σ W ⟨z,v2,v3,v4,rfl,O,hz,DH,Z⟩;rw[az,<-iI,nE] at Z;exact(_,Á,k W z O Z hz DH)
end
theorem al5(sames:LN)(l:cu):∀(st:ik)(x:LN×ik),oE sames st l=Α x->x.1.L=l.L:=by
 induction l with
 |nil=>
  intro st x h;delta oE at h;rw[<-aO h];rfl
 |cons p r j=>
  intro st x h;delta oE at h;split at h
  .cases h
  .split at h
   .cases h
   .rename_i y e;rw[<-aO h];show y.1.L+1=r.L+1;rw[j _ _ e]
theorem Xj(sames:LN)(l:List cu):∀(st:ik)(x:bq×ik),m9 sames st l=Α x->x.1.M List.length=l.M List.length:=by
 induction l with
 |nil=>
  intro st x h;delta m9 at h;rw[<-aO h];rfl
 |cons p r m=>
  intro st x h;delta m9 at h;split at h
  .cases h
  .rename_i z j;split at h
   .cases h
   .rename_i y e;rw[<-aO h,a8,a8,m _ _ e,al5 sames p _ _ j]
def Xk{ms:aG}{rows hs:bq}(h:oG ms rows=Α (some hs)):hs.M List.length=rows.M List.length:=by
 delta oG at h;split at h
 .symm
 .split at h
  .symm
  .cases e:m9 Ĭ Ær Ãs with
   |none=>symm
   |some x=>
    rw[e] at h;let h:=aO (aO h);rw[<-h,Xj _ _ _ _ e];ext ng fX;rw[cZ];apply xI;intro i;rw[bU,bU,ZZ,bU];cases er:rows[i]? with
    |none=>symm
    |some r=>
     rw[II.mpr (show rows[i]? =Α (r,r).1/\rows[i]? =Α (r,r).2 from⟨er,er⟩)];ext qK;simp
def al6(cs:bq):∀nums∈lQ cs,∀(i n:Nat)(c:LN),nums[i]? =Α n->cs[i]? =Α c->n∈c:=by
 apply snoc_ind (P:=λcs=>∀nums∈lQ cs,∀(i n:Nat)(c:LN),nums[i]? =Α n->cs[i]? =Α c->n∈c) (λnums h i n c j h2=>?_) (λl x O nums h i n c j h2=>?_) cs
 .simp at h2
 .rw[Hi] at h;delta pN at h;let(r,hr,h):=lr.mp h;let(m,J,rfl):=b9.mp h;let F:=Oi l r hr;by_cases hi:i<l.L
  .rw[Ik Å] at j;rw[Ik hi] at h2;exact O r hr i n c j h2
  .rw[Qa Å] at j;rw[Qa Å] at h2;let z:i-l.L=0:=by
    let:=(bO.mp h2).1;simpa using this
   rw[F,z] at j;rw[z] at h2;cases j;cases h2;exact J
def al7{hs rows:bq}(e:hs.M List.length=rows.M List.length){i:Nat}{h r:LN}(j:hs[i]? =Α h)(h2:rows[i]? =Α r):h.L=r.L:=by
 let:=cw (λl=>l[i]?) e;simp only[bU,j,h2] at this;simpa using this
def sk{α:Type}(H1:Hp)(D:Addr)(l:List α)(q:α->Bool)(g:α->V)(i:Nat)(H:Hp):Prop:=ai H1 H/\H D=Α (.lst (((l.take i).J q).M g))
def sk.zero{α:Type}{H1:Hp}{D:Addr}{l:List α}{q:α->Bool}{g:α->V}(j:H1 D=Β):sk H1 D l q g 0 ď:=⟨aN j,aq⟩
def sk.yes{α:Type}{H1 H j:Hp}{D:Addr}{l:List α}{q:α->Bool}{g:α->V}{i:Nat}{x:α}{v:V}(m:H1 D=Β)(hi:i<1000000)(f:sk H1 D l q g i H)(s:ai H j)(F:l[i]? =Α x)(h:q x=true)(z:v=g x):j8 D (sk H1 D l q g (i+1)) v j:=by
 subst z;apply(_,s _ _ f.2,?_,fu (f.1.R s) m,?_)
 .rw[az];let:=IE q (l.take i);rw[nB] at this;exact g9 Ô
 .rw[aq,Gj F,af h,bZ];rfl
def sk.no(f:sk H1 D l q g i H)(s:ai H H4)(j:l[i]? =Α x)(h:¬q x=true):sk H1 D l q g (i+1) H4:=by
 apply(f.1.R s,?_);rw[Gj j,ag h,jG];exact s _ _ f.2
theorem al8{α β:Type}{q:α->Option β}{l:List α}{i:Nat}{x:α}(h:l[i]? =Α x):(l.take (i+1)).filterMap q=(l.take i).filterMap q++(match q x with|some y=>[y]|none=>[]):=by
 rw[take_snoc h,ZV];congr 1;cases e:q x with
 |none=>simp[e]
 |some y=>simp[e]
structure pO where
 a:Addr
 dx:Addr
 nums:c6
 hs:ck
 sd:c6
def Hl(r:pO):List (Str×V):=[("entries",.ref r.nums.a),("hoists",.ref r.hs.a),("sides",.ref r.sd.a)]
def AZ(CR:Addr)(r:pO):jw:=(r.a,.ins CR r.dx (Hl r))::(lsN r.nums++(eV r.hs++lsN r.sd))
def Xl{CR:Addr}{r:pO}{p:Addr×HO->Prop}(m:p (r.a,.ins CR r.dx (Hl r)))(h2:∀x∈lsN r.nums,p x)(z:∀x∈eV r.hs,p x)(F:∀x∈lsN r.sd,p x):∀x∈AZ CR r,p x:=λx j=>by
 rcases aV.mp j with rfl|j
 .exact m
 .grind
def pO.m(r:pO):LN×bq×LN:=(r.nums.ns,r.hs.m,r.sd.ns)
abbrev Views:=List (Nat×List bq)
def nj(ms:aG)(p:fT):Views:=(uh p.side).M λs=>(s,qJ ms p.classes s p.ak)
def uj(j:Views)(m:List iP)(hs:bq):LN:=(j.J λv=>m7 hs m v.2).M (·.1)
def jC(rows:bq)(nums:LN):bq:=nums.M λn=>rows.D n []
def vC(ms:aG)(rows:bq)(m:List iP)(j:Views)(nums:LN):Option (LN×bq×LN):=match oG ms (jC rows nums) with
 |some (some hs)=>if uj j m hs=[] then none else some (nums,hs,uj j m hs)
 |_=>none
def jW(rows:bq)(j:List iP):bq:=j.M (qP rows)
def pP(rows:bq)(j:List iP):Nat:=ia ((jW rows j).M List.length)
def nk(ms:aG)(rows:bq)(p:fT):List (LN×bq×LN):=(ui (jW rows p.ak)).filterMap (vC ms rows p.ak (nj ms p))
def DI(CR:Addr)(H:Hp)(q:Addr)(rs:List pO):Prop:=H q=Α (.lst (rs.M λr=>V.ref r.a))/\∀r∈rs,aX H (AZ CR r)
inductive Xm(C:Cs)(CL CK fm CE CR CT:Addr)(vs:ay)(H:Hp)(Q:VK)(E:XK):Prop
 |mk (l:ve) (b:qO) (p:eS) (_:vs=[.ref l.a,.ref b.a,.ref p.a]) (_:vA CL CK H l) (_:yR fm CE H b) (_:xk C H p) (_:He Ñ Ü) (_:(pP Ü p.m.ak<=1024->∀H' q rs,ai H H'->rs.M pO.m=nk Ñ Ü p.m->DI CR H' q rs->Q Èy H')) (_:(1024<pP Ü p.m.ak->No E CT H))
section
variable{P:Pg}{w:Wd}{K:FR}{mg:MG}{base:Heap}{CK CL CS N CV CP CB CE fm CR CT:Addr}{C:Cs}
def nq:bQ ["locker","book","plate","choices","glimpse","choice","views","side","readings","numbers","hoists","number","sides","view"] ["locker","book","plate"] (aY LF):=cJ
inductive Xn(CR:Addr)(l:ve)(b:qO)(p:eS)(y:ck)(D3 r:Addr)(H4:Hp)(z:ck)(i:Nat)(σ:L2.St)(H':Hp):Prop
 |mk (v9 zd yo:Option V) (rs:List pO) (_:σ=[some (.ref l.a),some Çl,some Ãb,some Ày,none,none,some (.ref D3),none,some Âj,v9,zd,none,yo,none]) (_:ai H4 H') (_:aX H' (eV z)) (_:H' r=Α (.lst (rs.M λx=>V.ref x.a))) (_:(∀x∈rs,aX H' (AZ CR x)/\∀y∈AZ CR x,y.1≠r)) (_:rs.L<=i) (_:rs.M pO.m=(z.m.take i).filterMap (vC Ñ Ü ó Ž))
def al9{f:Addr}{fd:FD}(F:bx K "readings_of" "readings_of" LF f fd)(X:ϓ "TooMuchInDoubt" CT N)(TC:ma K C)(TL:lN K CL ["name","kinds"])(TB:lN K fm ["name","entries"])(TE:lN K CE ["row","meaning"])(TV:lN K CV ["side","glimpses"])(tL:mg "len"=Β)(cM:Cn mg "MOST_IN_DOUBT" (.int 1024))(dI:Ç 1 "entries_in_doubt" ["book","glimpse"] (Oe C fm CE)) (dP:Ç 1 "product" ["numbers"] W9) (dV:Ç 4 "view_of" ["kinds","plate","side"] (M9 C CK CV)) (dS:Ç 1 "sides_of" ["plate"] (Xa C))(dA:Ç 1 "all_rows" ["choices"] Xb) (dD:Ç 4 "display_told" ["kinds","rows"] (G6 CK)) (dF:Ç 3 "fits" ["hoists","plate","view"] (Nh C CV)) (dR:ć "Reading" CR ["entries","hoists","sides"]):
  ba P w K mg base ę 5 f fd ["locker","book","plate"] (Xm C CL CK fm CE CR CT):=by
 refine F.rK nq Â;let(l,b,p,rfl,hL,hB,hP,vB,k1,k2):=h;refine⟨_,aD (uW (i:=3) (own:=[("glimpse",4)]) (te:=ic (Oe C fm CE) [] E0 (bo Ϟ (bo Ãv dQ))) Á nq.nd Á Á Ò (eW (bg è Á)) Ê
   (λ_ _ _ _ _=>dy 4 nq.nd) Õ (λ_ _ _ _ _=>bH dI (ae â Ϭ)))
  (aD (dv (cV wa (bH dP (ae (eB (own:=[("choice",5)]) (te:=rq (W8 K) Èu) rfl nq.nd (eW ú) Ê
   (λ_ _ _ _ _=>dy 5 nq.nd) Õ (λ_ _ _ _ _=>dc gf Ò tL PySem.boot_len Ŭ)) ah)) (cj cM) (bW _)) Û eA)
  (aD (uW (i:=6) (own:=[("side",7)]) (te:=ic (M9 C CK CV) [] E0 (bo (f7 K ύ "kinds") (bo š (bo Èw dQ)))) rfl nq.nd rfl rfl Ò (eW (bH dS ū)) Ê
   (λ_ _ _ _ _=>dy 7 nq.nd) Õ (λ_ _ _ _ _=>bH dV (ae ċ (ae è (ae Åt ah)))))
  (aD (cy 8 nq.nd Ļ)
  (aD (nO (SB yd) rfl (eW (bH dA Ĺ)) (dy 9 nq.nd)
   (aD (cy 10 nq.nd (bH dD (ae ċ (ae (eB (own:=[("number",11)]) (te:=f7 K (bV ž (f7 K Ϟ "entries") (aA 11)) "row") rfl nq.nd (eW (pv 9)) Ê
    (λ_ _ _ _ _=>dy 11 nq.nd) Õ (λ_ _ _ _ _=>bg (cQ c8 ŗ (pv 11) Ø) rfl)) ah))))
   (aD (cy 12 nq.nd (sP (oS (rk (pv 10))) Ļ (eB (own:=[("view",13)]) (tt:=nP (ic (Nh C CV) [] E0 (bo (aA 10) (bo š (bo (aA 13) dQ))))) (te:=f7 K (aA 13) "side") rfl nq.nd (eW Ãr) Ê
    (λ_ _ _ _ _=>dy 13 nq.nd) (λ_ _ _ _ _=>qj (jH (bH dF (ae (pv 10) (ae è (ae (pv 13) ah)))))) (λ_ _ _ _ _=>bg (pv 13) rfl))))
   (aE (dv (cV Ãa (pv 12) Ļ (bW _)) (aE (sQ (Þ (pv 8) (ae (qB dR hr (ae (pv 9) (ae (pv 10) (ae (pv 12) ah)))) ah)))) eA)))))
  (aE (a0 (pv 8))))))),?_⟩
 let hgf:=hP.dh;apply(_,Á,bh hP.l.pl TC.cP TC.mX Åv ⟨p.gl,Á,⟨_,aa.of hP.l.gl⟩,λD hD=>gC (K:=K) (a:=p.gl) (xs:=p.ak.M λg=>V.ref g.a) (jz H D λi=>(jW Ü ó).D i []) Ď (λi H' _ f=>aa.of (f.E _ _ hP.l.gl)) (λi v H' hi f=>?_) (λH1 f=>?_)⟩)
 .let(g,hg,rfl):=iC hi;let d7:=(bO.mp hg).1;apply(Á,eJ ⟨_,Á,_,Á,b,g,Á,hB.E f.E,(hP.l.sub (bY hg)).E f.E,λH3 q n=>jz.step hD Ô f n.1 n.2.1 ?_⟩);rw[n.2.2];ext jW;symm
 let(y,eya,s1,sj,hy,WE):=jz.end hD f;subst eya;rw[az] at sj;let gB:(jW Ü ó).L=p.ak.L:=by
  ext jW;simp
 let sj:y.m=jW Ü ó:=by
  rw[sj,<-gB];let:=xj (l:=jW Ü ó) (g:=λx=>x) (d:=[]);symm
 let sX:y.ls.L=p.ak.L:=by rw[<-iI,sj,gB]
 let zU:∀c∈y.m,c.L<=2048:=λc hc=>by
  rw[sj] at hc;delta jW at hc;let(g,_,rfl):=b9.mp hc;ext qP;let O:=IE (AY Ü g.above g.below g.flags.L) (List.range (b.es.M bu.row).L);rw[gq,az] at O;let:=hB.e.dh;grind
 apply(_,Á,y.a,Á,⟨_,aa.of (jS hy)⟩,λD2 cg=>gC (K:=K) (a:=y.a) (xs:=y.ls.M λx=>V.ref x.a) (fk H1 D2 λi=>(((y.m.D i []).L:Nat):Int)) (fk.zero cg) (λi H' _ f=>aa.of (f.1 _ _ (jS hy))) (λi v H' hi f2=>?_) (λH2 f2=>?_))
 .let(x,U,rfl):=iC hi;let d7:=(bO.mp U).1;apply(Á,eJ ⟨_,Á,x.a,_,Á,.inl (aa.of (f2.1 _ _ (m6 hy (bY U)))),fk.step cg Ô f2 ĵ ?_⟩);rw[fb,jR,De U]
 let s2:=s1.R f2.1;let fY:=f2.2;rw[az,<-iI] at fY;let Ao:(List.range y.m.L).M (λi=>(((y.m.D i []).L:Nat):Int))=nv Ź:=by
  ext nv;rw[cZ];exact xj (l:=y.m) (g:=λc=>((c.L:Nat):Int)) (d:=[])
 rw[Ao] at fY;let edd:pP Ü p.m.ak=ia Ź:=by
  rw[sj];rfl
 rw[edd] at k1 k2;apply(D2,_,Á,fY,λn hn=>?_,_,_,Á,Á,_,Á,bc Ï Ï)
 .grind
 .let hc:1024<ia Ź:=by
   lia
  exact gX ((k2 hc).go s2)
 let hc:ia Ź<=1024:=by
  lia
 let k1:=k1 hc;let Xo:=hP.E s2;let m4:=hL.E s2;apply(_,Á,p,Á,Xo.l,λH3 q n3=>⟨q,Á,⟨_,aa.of n3.2.2⟩,λD3 o9=>gC (K:=K) (a:=q) (xs:=iv (nv Çv)) (oq (qI CV) vm.a (λi v=>∀s,Çv[i]? =Α s->v.side=s/\v.gs.M ck.m=qJ Ñ p.classes s ó) H3 D3) (cK.zero o9) (λi H' _ f=>aa.of (f.E _ _ n3.2.2)) (λi v H' hi f3=>?_) (λH4 f3=>?_)⟩)
 .let(sd,tY,rfl):=om hi;let d7:=(bO.mp tY).1;let BS:(uh p.side).L<=2:=by
   ext uh;grind
  let s3:=n3.1.R f3.E;apply(Á,eJ ⟨_,Á,bh (C8 (m4.E s3).lies) TL.1 (TL.2 _ Ä) (Ga l) ⟨_,Á,_,Á,l.kl,l.kinds,p,sd,Á,(m4.E s3).ks,Xo.E s3,λH5 v s5 e1 e2 lv fv=>?_⟩⟩);apply oq.step o9 Ô f3 s5 v (λs hs=>?_) lv fv;grind
 let(vs,JC,s3,amc,Xp,hvL,hvF):=oq.end f3;rw[fb,jR] at JC;let s4:=s2.R (n3.1.R s3);apply(du _,λr ue=>?_);let s5:ai H4 (upd H4 r ä):=aN ue;let rQ:(upd H4 r ä) r=Α ä:=aq;let atz:∀b o,H4 b=Α o->b≠r:=λb o e z=>by rw[z,ue] at e;cases e
 generalize upd H4 r ä=H5 at s5 rQ;let hy5:=(hy.E f2.1).E ((n3.1.R s3).R s5);apply(_,Á,y,Á,hy5,by lia,λx U=>?_,λ_=>hc,λH6 z s6 nh hz DH=>?_)
 .let:=zU x.ns (by ext ck.m;exact b9.mpr ⟨x,U,Á⟩);lia
 let t9:z.a≠r:=λe=>by
  let O:=DH (z.a,_) (gn ..);lia
 let Xq:∀x∈eV z,x.1≠r:=λx U e=>by
  let O:=DH x U;lia
 let s46:=s5.R s6;let hr6:=s6 _ _ rQ;let eR:nk Ñ Ü p.m=z.m.filterMap (vC Ñ Ü ó Ž):=by
  rw[nh,sj];rfl
 rw[eR] at k1;let atA:z.ls.L<=1024:=by
  rw[<-iI,nh];ext ui;split
  .simp
  .rw[Oh];omega
 refine⟨z.a,Á,⟨_,aa.of (jS hz)⟩,xR (K:=K) (a:=z.a) (xs:=z.ls.M λx=>V.ref x.a) (Xn CR l b p y D3 r H4 z)
  ⟨none,none,none,[],rfl,s46,hz,hr6,by simp,bw _,rfl⟩ (λi σ H' _ h=>(by let(_,_,_,_,_,_,h):=h;exact aa.of (jS h))) ?_ ?_⟩
 .rintro i v σ H7 hi ⟨v9,zd,yo,rs,rfl,s7,Hm,Ol,yT,amh,Ho⟩;let(x,U,rfl):=iC hi;let gJ:=bY U;let d7:=(bO.mp U).1;let Xr:x.ns∈z.m:=by ext ck.m;exact b9.mpr ⟨x,gJ,Á⟩
  let hzi:z.m[i]? =Α x.ns:=by ext ck.m;rw[bU,U];rfl
  let Du:x.ns∈lQ y.m:=by
   rw[nh] at Xr;delta ui at Xr;grind
  let oy:x.ns.L=p.ak.L:=by rw[Oi _ _ Du,sj,gB]
  let kH:=m6 Hm gJ;let Xs:∀(j n:Nat)(g:cz),x.ns[j]? =Α n->p.ak[j]? =Α g->∃e,b.es[n]? =Α e/\g.flags.L<=e.row.L:=λj n g O h2=>by
   let h3:=al6 y.m x.ns Du j n (qP Ü g.m) O (by rw[sj];ext jW;rw[bU,bU,h2];rfl);delta qP at h3;let(h4,h5):=jF.mp h3;simp at h4;apply(b.es[n],c7 h4,?_);delta AY ni at h5;rw[getD_map (c7 h4)] at h5;let eg:g.m.flags.L=g.flags.L:=by ext cz.m;rw[az]
   lia
  let hes:∀n∈x.ns,∃e,b.es[n]? =Α e:=λn hn=>by
   let(j,hj,e):=qV hn;let(e',h',_):=Xs j n p.ak[j] (by grind) (c7 á);grind
  let Hq:=s4.R s7;let hL7:=hL.E Hq;let hB7:=hB.E Hq;let hP7:=hP.E Hq;apply(_,Á,bh (C8 hL7.lies) TL.1 (TL.2 _ Ä) (Ga l) ⟨_,Á,x.a,Á,⟨_,aa.of kH⟩,λD8 Hc=>gC (K:=K) (a:=x.a) (xs:=iv (nv x.ns)) (cK H7 D8 λi v ns=>∃e:bu,(∀n,x.ns[i]? =Α n->b.es[n]? =Α e)/\v=.ref e.rw/\ns=[]) (cK.zero Hc) (λi H' _ f=>aa.of (f.E _ _ kH)) (λj v H' hi f8=>?_) (λH8 f8=>?_)⟩)
  .let(n,hn,rfl):=om hi;let wg:=(bO.mp hn).1;let(e,he):=hes n (bY hn);let DJ:=hB7.E f8.E;let i5:=DJ.e.l e (bY he);apply(Á,eJ ⟨_,Á,bh DJ.a TB.1 (TB.2 _ Ä) (W4 b) ⟨_,Á,b.el,_,(n:Int),.ref e.a,Á,Á,aa.of DJ.e.a,gc (by grind),bh (DE i5) TE.1 (TE.2 _ Ä) (DC e) ?_⟩⟩);apply f8.step Hc Ô ĵ ⟨e,λn' QR=>?_,Á,Á⟩ aX.nil Ä;grind
  let(ys,s8,hd8,Xu,fl):=f8.end;let(bs,rfl,r8,_):=yA (v:=λe:bu=>V.ref e.rw) (nd:=λ_=>[]) (R:=λi e=>∀n,x.ns[i]? =Α n->b.es[n]? =Α e) fl;rw[az,fb,jR] at Xu;let By:∀(j:Nat)(e:bu),bs[j]? =Α e->∃n,x.ns[j]? =Α n/\b.es[n]? =Α e:=λj e he=>by
   let O:=(bO.mp he).1;exact(x.ns[j]' Ô,c7 _,r8 j e he _ (c7 _))
  let wK:∀e∈bs,e∈b.es:=λe he=>by
   let(j,hj,rfl):=qV he;let(n,_,h2):=By j _ (c7 hj);grind
  let Om:=Hq.R s8;let On:=hL.E Om;let DJ:=hB.E Om;let hP8:=hP.E Om;let vj:=s8 _ _ Ol;let e2m:(⟨D8,bs.M λe=>⟨e.rw,e.row⟩⟩:ck).m=jC Ü x.ns:=by
   ext ck.m jC;rw[cZ];apply Gy Xu λj e n O h2=>?_;grind
  let AX:∀jb∈jC Ü x.ns,jb∈b.es.M bu.row:=λjb h=>by
   rw[<-e2m] at h;delta ck.m at h;grind
  let hy2:Nt H8 ⟨D8,bs.M λe=>⟨e.rw,e.row⟩⟩ l.kinds.L:=by
   apply(AV (by rw[cZ];exact hd8) λw J=>?_,by grind,λw J=>?_,λw J=>?_)
   all_goals let(e,he,rfl):=b9.mp J
   .exact DF (DJ.e.l e (wK e he))
   .let:=vB.short e.row (b9.mpr ⟨e,wK e he,rfl⟩);lia
   .intro s hs;let:=vB.lt e.row (b9.mpr ⟨e,wK e he,rfl⟩) s hs;grind
  let gr:((⟨D8,bs.M λe=>⟨e.rw,e.row⟩⟩:ck).m.flatten).L<=1000:=by
   let O:∀(L:bq),(∀w∈L,w.L<=8)->L.flatten.L<=8*L.L:=by
    intro L;induction L with
    |nil=>simp
    |cons a L ih=>
     grind
   let h2:=O (⟨D8,bs.M λe=>⟨e.rw,e.row⟩⟩:ck).m λw J=>vB.short w (AX w (by grind));rw[iI] at h2;grind
  let Xv:=al8 (q:=vC Ñ Ü ó Ž) hzi;let Y:vC Ñ Ü ó Ž x.ns=match oG Ñ (jC Ü x.ns) with
   |some (some hs)=>if uj Ž ó hs=[] then none else some (x.ns,hs,uj Ž ó hs)
   |_=>none:=rfl
  generalize vC Ñ Ü ó Ž x.ns=Fj at Xv Y;let skip:Fj=Β->∀(H':Hp)(Xw Xx:Option V),ai H8 H'->Xn CR l b p y D3 r H4 z (i+1) [some (.ref l.a),some Çl,some Ãb,some Ày,none,none,some (.ref D3),none,some Âj,some (.ref x.a),Xw,none,Xx,none] H':=λen H' Xw Xx s'=>by
   apply(_,_,_,rs,Á,(s7.R s8).R s',Hm.E (s8.R s'),s' _ _ vj,λw J=>⟨(yT w J).1.same (s8.R s'),(yT w J).2⟩,by lia,?_);grind
  cases ed:oG Ñ (jC Ü x.ns) with
  |none=>exact absurd ed (On.sh _ λjb hr s hs=>vB.sg jb (AX jb hr) s hs)
  |some ro=>
  rw[ed] at Y;apply(l.kl,l.kinds,_,ro,Á,On.ks,On.ms,hy2,gr,by grind,λhs eh H9 zz s9 Oo yO fzz=>?_,λeh H9 s9=>?_)
  .subst eh;let Y:Fj=if uj Ž ó hs=[] then none else some (x.ns,hs,uj Ž ó hs):=Y;let Xy:∀w∈eV zz,w.1≠r:=λw J e=>by
    let O:=fzz w J;lia
   let hr9:=s9 _ _ vj;let evs:vs.M (λv=>(v.side,v.gs.M ck.m))=nj Ñ p.m:=Gy JC λi v sd O h2=>by
    let(h3,h4):=Xp i v O sd h2;rw[h3,h4];rfl
   let esf:uj Ž ó hs=(vs.J λv=>m7 hs ó Ϸ).M vm.side:=by
    rw[<-evs];ext uj;rw[zo,cZ];rfl
   rw[esf] at Y;let Xz:=λv hv=>(hvL v hv).E ((s7.R s8).R s9);let XA:=((s7.R s8).R s9) _ _ amc;let cE:=Xk ed;let hhl:hs.L=p.ak.L:=by
    let:=cw List.length cE;rw[az,az] at this;rw[this];ext jC;grind
   let amw:zz.ls.L=p.ak.L:=by rw[<-iI,Oo,hhl]
   apply(_,Á,_,Á,nW ⟨_,Á,D3,Á,⟨_,aa.of XA⟩,λD9 Hr=>gC (K:=K) (a:=D3) (xs:=vs.M λv=>V.ref v.a) (sk H9 D9 vs (λv=>m7 hs ó Ϸ) λv=>V.int (v.side:Nat)) (sk.zero Hr) (λi H' _ f=>aa.of (f.1 _ _ XA)) (λj v H' hi Z=>?_) (λES Z=>?_)⟩)
   .let(v,hv,rfl):=iC hi;let XD:=bY hv;let wg:=(bO.mp hv).1;let BS:(uh p.side).L<=2:=by
     ext uh;grind
    obtain⟨sd,tY⟩:∃sd,Çv[j]? =Α sd:=⟨_,c7 Ô⟩;let zJ:=(Xp j v hv sd tY).2;let amx:v.gs.L=p.ak.L:=by
     let:=cw List.length zJ;delta qJ at this;grind
    apply(Á,_,Á,_,Á,_,Á,zz,p,v,Á,yO.E Z.1,(hP8.E s9).E Z.1,(Xz v XD).E Z.1,amw,amx,λm h g s O h2 h3=>?_,λH' s'=>Ĝ)
    .let e1:hs[m]? =Α h.ns:=by rw[<-Oo];ext ck.m;rw[bU,O];rfl
     let BU:=(bO.mp h2).1;obtain⟨n,hn⟩:∃n,x.ns[m]? =Α n:=⟨_,c7 á⟩;let(e,he,hfe):=Xs m n g hn h2;let e2:(jC Ü x.ns)[m]? =Α e.row:=by
      ext jC;grind
     let e3:=al7 cE e1 e2;let e4:=vB.short e.row (b9.mpr ⟨e,bY he,rfl⟩);apply(?_,by omega,by omega);let e5:Ϸ[m]? =Α s.m:=by rw[bU,h3];rfl
     rw[zJ] at e5;delta qJ at e5;rw[bU,bU,h2] at e5;let e5:=aO e5;let e6:=cw List.length e5;delta yH cz.m at e6;rw[az,az,iI] at e6;omega
    .rw[Oo];refine bc Ï Ï
     .let zF:=(Xz v XD).E (Z.1.R s');exact(_,Á,bh (VS zF) TV.1 (TV.2 _ Ä) (ajW v) (sk.yes Hr á Z s' hv hc Á))
     .exact Z.no s' hv hc
   .let o4:=Z.1;let A0:=Z.2;rw[az,nE] at A0;let A0:ES D9=Α (.lst (iv (nv ((vs.J λv=>m7 hs ó Ϸ).M vm.side)))):=by
     rw[A0];simp
    generalize ((vs.J λv=>m7 hs ó Ϸ).M vm.side)=W at Y A0;apply(_,Á,du _,λe he=>⟨D9,e,_,Á,Á,aa.of ((Èf) _ _ A0),aa.of aq,_,Á,bc (λaU=>?_) (λaU=>?_)⟩)
    .let aU:¬W=[]:=λz=>by
      grind
     rw[ag aU] at Y;let lG:ai H8 (upd ES e ä):=(s9.R o4).R Èf;let XE:=(aN (o:=.lst []) he) _ _ A0;let XF:=(yO.E o4).E (aN (o:=.lst []) he);generalize upd ES e ä=Cj at lG XE XF;let Oq:=lG _ _ vj;apply(_,Á,.inl ⟨Á,_,aa.of Oq⟩,_,Á,_,Á,_,Á,?_);intro a dx ha jf atE;refine⟨a,dx,[.ref x.a,.ref zz.a,.ref D9],Á,Á,aq,λH12 e12 e2=>Ŷ⟩;let fc:=λb o eb=>e2 b o (by rw[ao (eO eb ha),ao (eO eb jf)];exact eb) (eO eb ha);let amA:=fc _ _ Oq;let XG:a≠r:=λz=>by rw[z,Oq] at ha;cases ha
     let hDr:D9≠r:=λz=>by rw[z,hr9] at Hr;cases Hr
     let Hs:=s8.R (lG.R fc);let atF:=Hs _ _ kH;let XH:=λw J=>Xq w (by ext eV;exact aQ _ (lr.mpr ⟨x,gJ,J⟩));apply(r,_,_,Á,Á,amA,by rw[az];exact g9 á,_,_,_,rs++[⟨a,dx,x,zz,⟨D9,W⟩⟩],rfl,fu (s7.R Hs) ue,λw J=>?_,?_,λw J=>?_,by grind,?_)
     .rw[ao (Xq w J)];exact(Hm.E Hs) w J
     .rw[aq,bZ];rfl
     .rcases gM.mp J with J|J
      .exact(λq hq=>by rw[ao ((yT w J).2 q hq)];exact((yT w J).1.same Hs) q hq,(yT w J).2)
      .obtain rfl:w=_:=by simpa using J
       refine⟨Xl (by show upd H12 r _ a=_;rw[ao XG];exact e12) Æg Æg Æg,Xl XG XH Xy Æg⟩
       .rw[ao (XH q hq)];simp only[lsN,lg] at hq;grind
       .rw[ao (Xy q hq)];exact(XF.E fc) q hq
       .simp only[lsN,lg] at hq;subst hq;rw[ao hDr];exact fc _ _ XE
       .simp only[lsN,lg] at hq;grind
     .rw[Xv,Y,bZ,Ho];show _++[(x.ns,zz.m,W)]=_;grind
    .let aU:W=[]:=by
      cases W with
      |nil=>rfl
      |cons a b=>grind
     rw[af aU] at Y;exact skip Y _ _ _ ((s9.R o4).R Èf)
  .subst eh;refine⟨_,Á,_,Á,lJ ⟨du _,λd hd=>⟨_,Á,du _,λe he=>⟨d,e,_,Á,Á,aa.of ((Èf) _ _ aq),aa.of aq,_,Á,nW (skip Y _ _ _ (s9.R ((aN hd).R Èf)))⟩⟩⟩⟩
 .rintro σ H7 ⟨v9,zd,yo,rs,rfl,s7,Hm,Ol,yT,amh,Ho⟩;rw[az,<-iI,nE] at Ho;exact(_,Á,k1 H7 r rs (s4.R s7) Ho ⟨Ol,λx U=>(yT x U).1⟩)
end
structure Ht(ms:aG):Prop where
 look:∀k∈ms,iW k.look
 mo:xn ms
 sh:∀rows,(∀r∈rows,∀s∈r,jT ms s=true)->oG ms rows≠none
structure Hu(m:fT):Prop where
 yI:m.classes.L=16
 dh:m.ak.L<=100
 flags:∀g∈m.ak,g.flags.L<=100
 cells:∀g∈m.ak,∀s∈g.flags,s.2.L=16
structure A1 where
 a:Addr
 dx:Addr
 q:Addr
 l:ve
 b:qO
 p:eS
 rs:List pO
def Hv(f:A1):List (Str×V):=[("locker",.ref f.l.a),("book",.ref f.b.a),("plate",.ref f.p.a),("readings",.ref f.q)]
def amC(f:A1):(Hv f).Q ("readings":Str)=Α (.ref f.q):=(fw È).R ((fw È).R ((fw È).R ij))
structure Kn where
 C:Cs
 CL:Addr
 CK:Addr
 fm:Addr
 CE:Addr
 CR:Addr
 CF:Addr
structure XI(k:Kn)(H:Hp)(f:A1):Prop where
 a:H f.a=Α (.ins k.CF f.dx (Hv f))
 l:vA k.CL k.CK H f.l
 b:yR k.fm k.CE H f.b
 p:xk k.C H f.p
 rs:DI k.CR H f.q f.rs
def DI.same{CR:Addr}{H H':Hp}{q:Addr}{rs:List pO}(h:DI CR H q rs)(s:ai H H'):DI CR H' q rs:=⟨s _ _ h.1,λr hr=>(h.2 r hr).E s⟩
structure XJ(f:A1)(x:LI×aG)(y:LI×List (LN×LI))(m:fT):Prop where
 n:f.l.name=x.1
 k:f.l.kinds.M aB.m=x.2
 b:f.b.m=y
 p:f.p.m=m
 r:f.rs.M pO.m=nk x.2 (y.2.M (·.1)) m
inductive XM(K:FR)(k:Kn)(CN CB nr CT:Addr)(vs:ay)(H:Hp)(Q:VK)(E:XK):Prop
 |mk (at_ ab ap:Addr) (t b p:LI) (_:vs=[.ref at_,.ref ab,.ref ap]) (_:ã at_ (iv t)) (_:ã ab (iv b)) (_:ã ap (iv p)) (_:t.L<=66000) (_:b.L<=66000) (_:p.L<=66000) (_:(∀x,fV t=Α x->Ht x.2)) (_:(∀m,gW p=.ok m->Hu m)) (_:(fV t=Β->No E CN H)) (_:∀x,fV t=Α x->(jV x.1 x.2 b=Β->No E CB H)/\∀y,jV x.1 x.2 b=Α y->(∀e,gW p=.error e->∀H' d,ai H H'->H' d=Α (u4 d (Mi e.1 e.2))->E (.ref nr) (some d) H')/\∀m,gW p=.ok m->(1024<pP (y.2.M (·.1)) m.ak->No E CT H)/\(pP (y.2.M (·.1)) m.ak<=1024->∀H' f,ai H H'->XI k H' f->XJ f x y m->Q (.ref f.a) H'))
section
variable{P:Pg}{w:Wd}{K:FR}{mg:MG}{base:Heap}{CN CB nr CT CF:Addr}{k:Kn}
def Hw:bQ ["t","b","p","locker","book","plate"] ["t","b","p"] (aY LO):=cJ
def amD(F:bx K "found" "found" LO f fd)(dL:č ę 6 "read_locker" ["text"] (Vo K k.CL k.CK CN))(dB:č ę 6 "read_book" ["locker","text"] (W5 K k.CL k.CK CB k.CE k.fm))(dP:č ę 6 "read_plate" ["text"] (UY K k.C nr))(dR:č ę 5 "readings_of" ["locker","book","plate"] (Xm k.C k.CL k.CK k.fm k.CE k.CR CT)) (dF:ć "Finding" k.CF ["locker","book","plate","readings"]):Ì ę 7 f fd ["t","b","p"] (XM K k CN CB nr CT):=by
 let(fL,fdL,GL,mL,kL,bL):=dL;let(fB,fdB,GB,mB,kB,bB):=dB;let(fP,LX,GP,mP,kP,bP):=dP;let(fR,fdR,GR,mR,kR,bR):=dR;refine F.rK Hw Â;let(at_,ab,ap,t,b,p,rfl,hT,hB,hP,lT,lB,lP,gL,gP,k1,k2):=h;let hr5:dJ 5 _:=hr.mono Ù;refine⟨_,aD (cy 3 Hw.nd (mG GL hr Á mL kL bL .nil rJ õ))
  (aD (cy 4 Hw.nd (mG GB hr rfl mB kB bB .nil rJ (ae ú Ŝ)))
  (aD (cy 5 Hw.nd (mG GP hr rfl mP kP bP .nil rJ ū))
  (aE (a0 (qB dF hr (ae ú (ae ĸ (ae Äl (ae (mG GR hr5 rfl mR kR bR .nil rJ (ae ú (ae ĸ Ŭ))) ah))))))))),?_⟩
 apply(_,Á,at_,t,Á,hT,lT,λx ex H1 l s1 e1 z hl lk=>?_,k1);let(k2,k3):=k2 x ex;let U:=gL x ex;let hL:vA k.CL k.CK H1 l:=by
  rw[<-z] at U;exact(hl,lk,λq hq=>U.look q.m (b9.mpr ⟨q,hq,Á⟩),U.mo,U.sh)
 apply(_,Á,_,Á,l,ab,b,Á,hL,s1.seq hB,lB,λy ey H2 bk s2 e3 hb rs=>?_,λen=>?_)
 .rw[e1,z] at ey;let(k3,k4):=k3 y ey;let fc:=s1.R s2;apply(_,Á,ap,p,Á,fc.seq hP,lP,λm em Y pl j hp J=>?_,λe ee Y d j hd=>k3 e ee Y d (fc.R j) hd);let(k4,k5):=k4 m em;let gp:=gP m em;let qC:=fc.R j;let XO:xk k.C Y pl:=by
   subst J;exact(hp,gp.yI,by let:=gp.dh;delta eS.m at this;rw[az] at this;exact this,λg hg=>(by let:=gp.flags g.m (b9.mpr ⟨g,hg,rfl⟩);delta cz.m at this;rw[az] at this;exact this),λg hg s hs=>gp.cells g.m (b9.mpr ⟨g,hg,rfl⟩) s.m (b9.mpr ⟨s,hs,rfl⟩))
  let Z:bk.es.M bu.row=y.2.M (·.1):=by
   rw[<-e3];ext qO.m;rw[cZ];rfl
  apply(_,Á,_,Á,_,Á,_,Á,_,Á,_,Á,l,bk,pl,Á,(hL.E s2).E j,hb.E j,XO,rs,λhd H4 q rds W e5 hr4=>?_,λhd=>?_)
  .rw[Z,J] at hd;rw[Z,z,J] at e5;apply wZ Á λa dx H5 ha jf aU e6 O=>?_;refine k5 hd H5 ⟨a,dx,q,l,bk,pl,rds⟩ ((qC.R W).R O) ⟨e6,(((hL.E s2).E j).E W).E O,((hb.E j).E W).E O,(XO.E W).E O,hr4.E O⟩ ⟨e1,z,e3,J,e5⟩
  .rw[Z,J] at hd;exact(k4 hd).go qC
 .rw[e1,z] at en;exact(k2 en).go s1
end
def refusal(t b p:LI):Option Int:=if 65536<t.L\/65536<b.L\/65536<p.L then some (-2) else match fV t with
 |none=>some (-6)
 |some x=>match jV x.1 x.2 b with
  |none=>some (-9)
  |some y=>match gW p with
   |.error _=>some (-8)
   |.ok m=>if 1024<pP (y.2.M (·.1)) m.ak then some (-7) else none
def mx3(a b c:Nat):decide (Ae (Ae ((a:Nat):Int) ((b:Nat):Int)) ((c:Nat):Int)>65536)=decide (65536<a\/65536<b\/65536<c):=by
 rw[Z0];ext Ae;split <;> split <;> omega
inductive XQ(K:FR)(k:Kn)(q:Str)(fdOf:Addr->Value->FuncData)(vG:Sp)(vs:ay)(H:Hp)(Q:VK)(E':XK):Prop
 |mk (at_ ab ap f:Addr) (t b p:LI) (_:vs=[.ref at_,.ref ab,.ref ap,.ref f]) (_:Cq H f q fdOf) (_:ã at_ (iv t)) (_:ã ab (iv b)) (_:ã ap (iv p)) (_:t.L<=66000) (_:b.L<=66000) (_:p.L<=66000) (_:(∀x,fV t=Α x->Ht x.2)) (_:(∀m,gW p=.ok m->Hu m)) (_:(∀z,Š p=Α z->∀H' r,H' r=Α (.lst [.int z])->Q Âj H')) (_:(Š p=Β->∀x y m,fV t=Α x->jV x.1 x.2 b=Α y->gW p=.ok m->∀H' f,ai H H'->XI k H' f->XJ f x y m->vG [.ref f.a] H' Q E0))
def XR{fdOf:Addr->Value->FuncData}(h:Cq H f q fdOf)(s:ai H H'):Cq H' f q fdOf:=let ⟨c,iO,a,b⟩:=h;⟨c,iO,s _ _ a,s _ _ b⟩
abbrev DK(n:Int):TS:=BG (zH (bo (EH (rU λi=>.int (-i)) (tC (.int n))) dQ))
section
variable{P:Pg}{w:Wd}{K:FR}{mg:MG}{base:Heap}{CN CB nr CT CF N1 N2 N3 N4:Addr}{k:Kn}{q:Str}{fdOf:Addr->Value->FuncData}{vG:Sp}
def XU:bQ ["t","b","p","told","finding"] ["t","b","p","told"] (aY LM):=cJ
def amI(F:bx K "answered" "answered" LM f fd)(XN:ϓ "NoLocker" CN N1)(Z:ϓ "NoBook" CB N2)(XP:F5 K mg nr N3)(XT:ϓ "TooMuchInDoubt" CT N4)(nd:[CN,CB,nr,CT].Nodup)(tL:mg "len"=Β)(tM:mg "max"=Β)(cM:Cn mg "MOST_BYTES" (.int 65536))(dF:č ę 7 "found" ["t","b","p"] (XM K k CN CB nr CT)) (L:Ft P w K mg base 7 q fdOf ["finding"] vG):Ì aF 8 f fd ["t","b","p","told"] (XQ K k q fdOf vG):=by
 let(fF,atL,GF,mF,kF,bF):=dF;refine F.ok XU Â;let(at_,ab,ap,lf,t,b,p,rfl,XW,hT,hB,hP,lT,lB,lP,gL,gP,k1,k2):=h;simp only[jZ,aV,lj,lp,not_or,not_false_eq_true,Bq,and_true] at nd;let((n1,n2,n3),(n4,n5),n6):=nd;refine⟨_,aD (dv (cV wa (dc (agw Á) Ò tM GW (ae Ċ (ae ÿ (ae þ ah)))) (cj cM) (bW _)) (aE Ĥ) eA)
  (aD (aes ⟨rfl,rfl⟩ (aet (i:=4) XU.nd rfl (Or.inl rfl) GF hr rfl mF kF bF (ae Ú (ae â ū)))
   (Fh (ts:=DK 6) XN.c rfl XN.mC Æj
   (Fh (ts:=DK 9) Z.c rfl Z.mC Æj
   (Fh (ts:=DK 8) XP.c rfl XP.mC Æj
   (Fh (ts:=DK 7) XT.c rfl XT.mC Æj aen)))))
  (aE (a0 (afz (i:=3) L hr rfl (Or.inl rfl) Ϭ)))),?_⟩
 apply(_,Á,at_,_,Á,.inl hT,_,Á,ab,_,Á,.inl hB,_,Á,ap,_,Á,.inl hP,_,_,_,Á,_,_,Á,Á,_,Á,?_);rw[fb,fb,fb,mx3];let j:Š p=if 65536<t.L\/65536<b.L\/65536<p.L then some (-2) else match fV t with
  |none=>some (-6)
  |some x=>match jV x.1 x.2 b with
   |none=>some (-9)
   |some y=>match gW p with
    |.error _=>some (-8)
    |.ok m=>if 1024<pP (y.2.M (·.1)) m.ak then some (-7) else none:=rfl
 generalize refusal t b p=rf at j k1 k2;let out:∀(z n:Int),rf=Α z->z= -n->∀(D:Ends)(σ:L2.St)(H':Hp),(∀r o5,o5 r=Α (.lst [.int z])->D.rt Âj o5)->DK n D σ H':=λz n _ e2 D σ H' hD=>by
  subst e2;exact(_,Á,(by show 1<=sizeLine;decide),λr hr=>hD r _ aq)
 refine bc Ï Ï
 .let hc:65536<t.L\/65536<b.L\/65536<p.L:=by simpa using hc
  rw[af hc] at j;exact out _ _ j Á _ _ _ λr H' e=>k1 _ j H' r e
 .let hc:¬(65536<t.L\/65536<b.L\/65536<p.L):=by simpa using hc
  rw[ag hc] at j;apply(_,Á,_,Á,_,Á,at_,ab,ap,t,b,p,Á,hT,hB,hP,lT,lB,lP,gL,gP,λen H1 J=>?_,λx ex=>⟨λen H1 J=>?_,λy O=>⟨λe ee H1 d J hd=>?_,λm em=>⟨λhd H1 J=>?_,λhd H1 fd J ok is=>?_⟩⟩⟩)
  .rw[en] at j;exact(CN,N1,Á,XN.c,λa U jf fl=>⟨λ_ W Y=>out _ _ j Á _ _ _ λr H' e=>k1 _ j H' r e,λz=>absurd Á z⟩)
  .rw[ex] at j;dsimp only at j;rw[en] at j;exact(CB,N2,Á,Z.c,λa U jf fl=>⟨λz=>absurd z.symm n1,λ_=>⟨λ_ W Y=>out _ _ j Á _ _ _ λr H' e=>k1 _ j H' r e,λz=>absurd Á z⟩⟩)
  .rw[ex] at j;dsimp only at j;rw[O] at j;dsimp only at j;rw[ee] at j;exact(nr,N3,Á,XP.c,λa U jf fl=>⟨λz=>absurd z.symm n2,λ_=>⟨λz=>absurd z.symm n4,λ_=>⟨λ_ W Y=>out _ _ j Á _ _ _ λr H' e=>k1 _ j H' r e,λz=>absurd Á z⟩⟩⟩)
  .rw[ex] at j;dsimp only at j;rw[O] at j;dsimp only at j;rw[em] at j;dsimp only at j;rw[af hd] at j;exact(CT,N4,Á,XT.c,λa U jf fl=>⟨λz=>absurd z.symm n3,λ_=>⟨λz=>absurd z.symm n5,λ_=>⟨λz=>absurd z.symm n6,λ_=>⟨λ_ W Y=>out _ _ j Á _ _ _ λr H' e=>k1 _ j H' r e,λz=>absurd Á z⟩⟩⟩⟩)
  .rw[ex] at j;dsimp only at j;rw[O] at j;dsimp only at j;rw[em] at j;dsimp only at j;rw[ag á] at j;exact(lf,Á,XR XW J,_,Á,XR XW J,Á,k2 j x y m ex O em H1 fd J ok is)
end
end HD
namespace L2
open PySem PySem.Spec PyProof.Rows
def amJ{X:Cx}:eU X (compareOp .GtE) (gu λi j=>.bl (decide (j<=i))):=EJ λ_ _ _ _ _ _ _ q=>ge_int q
def amK:bootBuiltins "set"=Α (.type "set"):=by decide+kernel
def amL:bootBuiltins "sorted"=Α (.builtin "sorted"):=by decide+kernel
end L2
namespace HD
open PySem PySem.Spec PyProof.Rows L2
open PySem.W (Codec)
def A2:List Stmt->Option Expr
 |[.Return (some (.Call _ [_,_,_,e] _ _)) _]=>some e
 |_=>none
def XX:Option Expr->Option Arguments
 |some (.Lambda a _ _ _)=>some a
 |_=>none
def XY:Option Expr->Option Expr
 |some (.Lambda _ b _ _)=>some b
 |_=>none
def XZ:Option Expr->Option Scope
 |some (.Lambda _ _ s _)=>some s
 |_=>none
def amM:(XX Âi).isSome=true:=by rfl
def amN:(XY Âi).isSome=true:=by rfl
def amO:(XZ Âi).isSome=true:=by rfl
abbrev mA:Arguments:=(XX Âi).get amM
abbrev mB:Expr:=(XY Âi).get amN
abbrev mS:Scope:=(XZ Âi).get amO
abbrev yU:Str:="entries.<locals>.<lambda>"
def xq(rs:bq)(m j:Nat):LN:=(List.range m).J λe=>rs.any λx=>x[j]? ==Α e
def A3(rs:bq)(m g j:Nat):LI:=if g<=j then [-4] else (((xq rs m j).L:Nat):Int)::nv (xq rs m j)
inductive Ou(k:Kn)(vs:ay)(H:Hp)(Q:VK)(E':XK):Prop
 |mk (f:A1) (j most:Nat) (_:vs=[.int ((j:Nat):Int),.ref f.a]) (_:H f.a=Α (.ins k.CF f.dx (Hv f))) (_:H f.p.a=Α (.ins k.C.P f.p.dx (l9 f.p))) (_:H f.p.gl=Α (.lst (f.p.ak.M λg=>V.ref g.a)))
   (_:H f.q=Α (.lst (f.rs.M λr=>V.ref r.a))) (_:f.rs.L+1<scanBound) (_:∀r∈f.rs,r.nums.ns.L=f.p.ak.L/\(∀e∈r.nums.ns,e<most)/\H r.a=Α (.ins k.CR r.dx (Hl r))/\H r.nums.a=Α (.lst (iv (nv r.nums.ns))))
   (_:∀H' r,H' r=Α (.lst (iv (A3 (f.rs.M λr=>r.nums.ns) most f.p.ak.L j)))->Q Âj H')
section
variable{P:Pg}{w:Wd}{K:FR}{mg:MG}{base:Heap}{CN CB nr CT CF N1 N2 N3 N4:Addr}{k:Kn}
def Hy:bQ ["j","finding","numbers","reading"] ["j","finding"] (aY LL):=cJ
def amP(r:pO):(Hl r).Q ("entries":Str)=Α (.ref r.nums.a):=ij
def amQ(f:A1):(Hv f).Q ("plate":Str)=Α (.ref f.p.a):=(fw È).R ((fw È).R ij)
def amR{f:Addr}{fd:FD}(F:bx K "entries_told" "entries_told" LL f fd)(T:lN K k.CF ["locker","book","plate","readings"])(TC:ma K k.C)(TR:lN K k.CR ["entries","hoists","sides"])(tL:mg "len"=Β)(tS:mg "set"=Β)(tO:mg "sorted"=Β):Ì aF 6 f fd ["j","finding"] (Ou k):=by
 refine F.ok Hy Â;let(fd,j,m,rfl,ha,hp,hg,hq,O,wV,q):=h;refine⟨_,aD (dv (cV amJ Ú (dc gf Ò tL PySem.boot_len (ae (bg Äv Á) ah)) (bW _)) (aE Ĥ) eA)
  (aD (cy 2 Hy.nd (dc (agr rfl) Ò tO amL (ae (wb (agq rfl) Ò tS amK (ae
   (eB (own:=[("reading",3)]) (te:=bV ž (f7 K Ş "entries") ύ) rfl Hy.nd (eW ŗ) Ê
    (λ_ _ _ _ _=>dy 3 Hy.nd) Õ (λ_ _ _ _ _=>cQ c8 Èd Ú Ø)) ah)) ah)))
  (aE (a0 (eP RJ (eG (ae þ ah)) è)))),?_⟩
 apply(_,Á,_,Á,bh ha T.1 (T.2 _ Ä) (amQ fd) (bh hp TC.cP TC.mX (mV fd.p) ⟨fd.p.gl,_,Á,.inl (aa.of hg),_,_,Á,Á,_,Á,?_⟩));rw[az];refine bc Ï Ï
 .let hc:fd.p.ak.L<=j:=by simpa using hc
  apply(_,Á,(by show 1<=sizeLine;decide),λr hr=>q _ r ?_);rw[aq];ext A3;rw[af hc];rfl
 .let hc:j<fd.p.ak.L:=by simpa using hc
  apply(_,Á,bh ha T.1 (T.2 _ Ä) (amC fd) ⟨fd.q,Á,⟨_,aa.of hq⟩,λD hD=>gC (K:=K) (a:=fd.q) (xs:=fd.rs.M λr=>V.ref r.a) (fk H D λi=>((((fd.rs.M λr=>r.nums.ns).D i []).D j 0:Nat):Int)) Àv (λi H' _ f=>aa.of (f.1 _ _ hq)) Č (λH1 f=>?_)⟩)
  .let(r,Z,rfl):=iC hi;let d7:=(bO.mp Z).1;let(r1,r2,J,r4):=wV r (bY Z);let z:r.nums.ns[j]? =Α r.nums.ns[j]:=c7 á;apply(Á,eJ ⟨_,Á,bh (f.1 _ _ J) TR.1 (TR.2 _ Ä) (amP r) ⟨_,Á,r.nums.a,_,_,.int ((r.nums.ns[j]:Nat):Int),Á,Á,aa.of (f.1 _ _ r4),gc (by simp[z]),?_⟩⟩);apply fk.step hD (by delta scanBound at O;omega) f ĵ ?_;simp[ip,Z,z]
  .let hd:=f.2;rw[az] at hd;let U:((List.range fd.rs.L).M λi=>((((fd.rs.M λr=>r.nums.ns).D i []).D j 0:Nat):Int)).L=fd.rs.L:=by simp
   apply(D,(List.range fd.rs.L).M λi=>((((fd.rs.M λr=>r.nums.ns).D i []).D j 0:Nat):Int),Á,aa.of hd,by rw[U];exact O,λp hp=>⟨p,_,_,rfl,aq,?_,λms p2 h1 h2 W qZ=>?_⟩)
   .let:=ZH (λi=>((List.range fd.rs.L).M λi=>((((fd.rs.M λr=>r.nums.ns).D i []).D j 0:Nat):Int)).D i 0) fd.rs.L;ext dist;rw[U];delta scanBound at O;rw[uF];omega
   .let em:ms=nv (xq (fd.rs.M λr=>r.nums.ns) m j):=by
     apply agv h1 h2 W (List.Pairwise.filter _ Qt) λk=>?_;rw[b9];constructor
     .rintro⟨i,hi,rfl⟩;let hi:=uG.mp hi;let(r1,r2,_,_):=wV fd.rs[i] (Ei hi);let ex:(fd.rs.M λr=>r.nums.ns).D i []=fd.rs[i].nums.ns:=by simp[ip,hi]
      let z:fd.rs[i].nums.ns[j]? =Α fd.rs[i].nums.ns[j]:=c7 á;apply(fd.rs[i].nums.ns[j],jF.mpr ⟨uG.mpr (r2 _ (Ei _)),pX.mpr ⟨fd.rs[i].nums.ns,b9.mpr ⟨_,Ei hi,Á⟩,by simp[z]⟩⟩,?_);rw[ex];simp[ip,z]
     .rintro⟨e,he,rfl⟩;let(_,h5):=jF.mp he;let(x,hx,Y):=pX.mp h5;let(r,CM,rfl):=b9.mp hx;let(i,hi):=Qr CM;let Y:r.nums.ns[j]? =Α e:=by simpa using Y
      apply(i,uG.mpr (bO.mp hi).1,?_);simp[ip,hi,Y]
    let hl:(xq (fd.rs.M λr=>r.nums.ns) m j).L<=fd.rs.L:=by
     let:=ZH (λi=>((List.range fd.rs.L).M λi=>((((fd.rs.M λr=>r.nums.ns).D i []).D j 0:Nat):Int)).D i 0) fd.rs.L;let e2:ms.L=(xq (fd.rs.M λr=>r.nums.ns) m j).L:=by rw[em];exact az ..
     delta dist at W;rw[U] at W;omega
    subst em;let J:upd (upd H1 p (FG P w p (λx=>(dist ((List.range fd.rs.L).M λi=>((((fd.rs.M λr=>r.nums.ns).D i []).D j 0:Nat):Int))).any (· ==x)) (dist ((List.range fd.rs.L).M λi=>((((fd.rs.M λr=>r.nums.ns).D i []).D j 0:Nat):Int))).L)) p2 (.lst (iv (nv (xq (fd.rs.M λr=>r.nums.ns) m j)))) p2=Α (.lst (iv (nv (xq (fd.rs.M λr=>r.nums.ns) m j)))):=aq;apply(_,Á,p2,_,Á,.inl (aa.of J),(by show 1<=sizeLine;decide),λp3 Bu=>⟨_,Á,p3,p2,_,_,Á,Á,aq,(by rw[ao (eO J Bu)];exact J),?_,λp4 QH=>q _ p4 ?_⟩)
    .show 1+(iv (nv (xq (fd.rs.M λr=>r.nums.ns) m j))).L<=sizeLine;rw[az,az,uF];delta scanBound at O;omega
    .rw[aq];ext A3;rw[ag á];show some (HO.lst ([.int _]++_))=Α (.lst (iv (_::nv _)));rw[az,az];rfl
def amS:Kb "finding" "j" mS:=⟨rfl,rfl,rfl,rfl,rfl,by decide+kernel,by decide+kernel⟩
abbrev X0(k:Kn)(i:Nat):Sp:=λvs H Q E=>Ou k (.int ((i:Nat):Int)::vs) H Q E
def amT{cx:Addr}{i:Nat}{pm:Value}(j:Ç 6 "entries_told" ["j","finding"] (Ou k)):Ft P w K mg base 7 yU (tw yU mA mB mS [("j",cx)] pm) ["finding"] (Kc cx (.int ((i:Nat):Int)) (X0 k i)):=
 afC amS (λc m u=>rfl) λf c A outer s H y Q hr h=>⟨_,bH j (ae â õ),⟨_,rfl,_,rfl,h⟩⟩
def aa.put{H:Hp}{a x:Addr}{xs:ay}{o:HO}(h:ã a xs)(j:∀u,H x=Α u->∃ps,u=.gU ps):aa K Çu a xs:=by
 rcases h with (h|⟨o,h⟩)|h
 .exact .inl (.inl (by rw[ao (λz=>by rw[z] at h;let(ps,e):=j _ h;cases e)];exact h))
 .exact .inl (.inr ⟨o,by rw[ao (λz=>by rw[z] at h;let(ps,e):=j _ h;cases e)];exact h⟩)
 .exact .inr h
inductive Ov(K:FR)(T:Addr)(vs:ay)(H:Hp)(Q:VK)(E':XK):Prop
 |mk (i:Nat) (at_ ab ap:Addr) (t b p:LI) (_:vs=[.int ((i:Nat):Int),.ref at_,.ref ab,.ref ap]) (_:H T=Α (.gU #[])) (_:ã at_ (iv t)) (_:ã ab (iv b)) (_:ã ap (iv p)) (_:t.L<=66000) (_:b.L<=66000) (_:p.L<=66000) (_:(∀x,fV t=Α x->Ht x.2)) (_:(∀m,gW p=.ok m->Hu m)) (_:(∀z,Š p=Α z->∀H' r,H' r=Α (.lst [.int z])->Q Âj H')) (_:(Š p=Β->∀x y m,fV t=Α x->jV x.1 x.2 b=Α y->gW p=.ok m->((∀z∈nk x.2 (y.2.M (·.1)) m,z.1.L=m.ak.L/\∀e∈z.1,e<y.2.L)/\(nk x.2 (y.2.M (·.1)) m).L+1<scanBound)/\∀H' r,H' r=Α (.lst (iv (A3 ((nk x.2 (y.2.M (·.1)) m).M (·.1)) y.2.L m.ak.L i)))->Q Âj H'))
def amU:bQ ["j","t","b","p"] ["j","t","b","p"] (aY qw):=cJ
def amV{f:Addr}{fd:FD}{T c:Addr}(F:bx K "entries" "entries" qw f fd)(hc:fd.code=.ref c)(hK:Cp K c T)(hb:yj mg base)(dA:∀(cx:Addr)(i:Nat),Ç 8 "answered" ["t","b","p","told"] (XQ K k yU (tw yU mA mB mS [("j",cx)] ((mg "__name__").D .none)) (Kc cx (.int ((i:Nat):Int)) (X0 k i)))):Ì aF 9 f fd ["j","t","b","p"] (Ov K T):=by
 apply F.okt amU Á (λaI A outer s H vs Q E U hr h=>?_);let(i,at_,ab,ap,t,b,p,rfl,W,h1,h2,h3,l1,l2,l3,g1,g2,k1,k2):=h;let U:=U.symm.R hc;let(fA,fdA,GA,gA,kA,bA):=dA Î i;apply⟨_,afE (i:=0) (x:="j") (c:=s.Z+1) GA hr Á gA kA bA Á Á Á Á Á (ae â (ae è (ae ú (ae (afr (q:=yU) (cl:=[("j",s.Z+1)]) hK hb U Á Á) ah)))),?_⟩;apply(_,Á,_,Á,_,Á,_,Á,W,λlf j iO jm Y Z n3 o u ho ru J=>?_);let nT:∀u,H T=Α u->∃ps,u=.gU ps:=λu e=>by
  symm
 let nlc:j≠T:=λz=>by rw[z,W] at Z;cases Z
 let nlf:lf≠T:=λz=>by rw[z,W] at Y;cases Y
 let nf:lf≠s.Z+1:=λz=>by rw[<-z,aq] at J;cases J
 let nc:j≠s.Z+1:=λz=>by rw[<-z,ao n3,aq] at J;cases J
 let seq:∀{a:Addr}{xs:ay},ã a xs->aa K (upd (upd (upd (ϣ (.gU jm)) j (z8 j yU)) lf (z7 lf (tw yU mA mB mS [("j",s.Z+1)] ((mg "__name__").D .none) j iO))) Î (nY Î o)) a xs:=λh=>
  aa.put (aa.put (aa.put (aa.put h nT) (λu e=>by rw[ao nlc,Z] at e;cases e)) (λu e=>by rw[ao n3.symm,ao nlf,Y] at e;cases e)) (λu e=>by let e:=J.symm.R e;cases e)
 apply(at_,ab,ap,lf,t,b,p,Á,⟨j,iO,(ao nf).R aq,(ao nc).R ((ao n3).R aq)⟩,seq h1,seq h2,seq h3,l1,l2,l3,g1,g2,k1,λer x y m ex ey em H' fd s' ok O=>?_);let(q1,q2):=k2 er x y m ex ey em;let jv:H' Î=Α (nY Î o):=s' _ _ aq;let nd:∀{a:Addr}{u:HO},H' a=Α u->(∀φ,u≠ .ext φ)->del H' Î a=Α u:=λe n=>by
  rw[wD (λz=>by rw[z,jv] at e;cases e;exact n _ Á)];exact e
 let eg:fd.p.ak.L=m.ak.L:=by rw[<-O.p];exact(az ..).symm
 apply(o,u,jv,ho,ru,Á,fd,i,y.2.L,Á,nd ok.a Ä,nd ok.p.l.pl Ä,nd ok.p.l.gl Ä,nd ok.rs.1 Ä,?_,λr hr=>⟨?_,?_,nd (ok.rs.2 r hr (r.a,_) (by simp[AZ])) Ä,nd (ok.rs.2 r hr (r.nums.a,_) (by simp[AZ,lsN])) Ä⟩,λH2 r e n=>q2 _ r ?_)
 .let:=q1.2;rw[<-O.r,az] at this;exact this
 .rw[eg];exact(q1.1 r.m (by rw[<-O.r];exact ZS hr)).1
 .exact(q1.1 r.m (by rw[<-O.r];exact ZS hr)).2
 .rw[ao (λz=>by rw[z,n] at e;cases e),e,<-O.r,cZ,eg];rfl
end
end HD
namespace HD
open PySem
def bitAnd_nn(a b:Nat):Builtin.bitAnd (a:Int) (b:Int)=((a&&& b:Nat):Int):=by
 rfl
def yV(g b:Nat):yK g b=g.testBit b:=by
 ext yK;let e:((g:Nat):Int)/2^b=((g/2^b:Nat):Int):=by
  rfl
 rw[e,show(1:Int)=((1:Nat):Int) from rfl,bitAnd_nn,Nat.testBit_eq_decide_div_mod_eq,Nat.and_one_is_mod];grind
def DL(g b:Nat):hZ g b=false↔ ∀i,b.testBit i=true->g.testBit i=true:=by
 let j:hZ g b=decide (b&&& g≠b):=by
  ext hZ Builtin.bitAnd Builtin.bitNot;rw[eN (IG b),fZ (by lia:¬(0:Int)<= -((g:Nat):Int)-1)];dsimp only;rw[show-(-((g:Nat):Int)-1)-1=((g:Nat):Int) by lia,xB,xB];let m:b&&& g<=b:=Nat.and_le_left;by_cases h:b&&& g=b
  .rw[h];simp
  .rw[eN h];let:((b:Nat):Int)-((b&&& g:Nat):Int)≠0:=by lia
   simpa using this
 rw[j,ID,Decidable.not_not];apply(λh i hi=>?_,λh=>ase λi=>?_)
 .rw[<-h,Eo,jq] at hi;exact hi.2
 .rw[Eo];cases hb:b.testBit i with
  |false=>rfl
  |true=>rw[h i hb];rfl
def Hz:hZ g b=true↔ ∃i,b.testBit i=true/\g.testBit i=false:=by
 constructor
 .intro h;apply QE λm=>?_;let:hZ g b=false:=(DL g b).mpr λi hi=>by
   symm
  symm
 .rintro⟨i,j,h2⟩;cases e:hZ g b with
  |true=>rfl
  |false=>
   rw[(DL g b).mp e i j] at h2;symm
theorem amY(g b:Nat):vw g (2^b)=g.testBit b:=by
 ext vw;rw[bitAnd_nn];cases e:g.testBit b with
 |true=>
  let h:g&&& 2^b≠0:=λz=>by
   let j:(g&&& 2^b).testBit b=true:=by rw[Eo,e,asf];rfl
   symm
  symm
 |false=>
  let h:g&&& 2^b=0:=ase λi=>by
   grind
  symm
def amZ(g:Nat):vw g 0=false:=by
 ext vw;rw[bitAnd_nn,Nat.and_zero];rfl
abbrev oZ(g b:Nat):Int:=kY (hZ g b)
def uk(g b:Nat):oZ g b=0\/oZ g b=1:=by
 ext oZ kY;split <;> simp
theorem HA(hs:∀i,g.testBit i=true->h.testBit i=true):oZ h b<=oZ g b:=by
 ext oZ kY;cases e:hZ h b with
 |false=>
  let:=uk g b;delta oZ kY at this;rw[ag d8];lia
 |true=>
  let(i,j,h2):=Hz.mp e;let:hZ g b=true:=Hz.mpr ⟨i,j,by
   cases e2:g.testBit i with
   |false=>rfl
   |true=>rw[hs i e2] at h2;cases h2⟩
  rw[this];exact IK _
def HB(a c:Nat):∀i,a.testBit i=true->(a|||c).testBit i=true:=λi h=>by rw[Nat.testBit_or,h];rfl
def X1(a c:Nat):∀i,c.testBit i=true->(a|||c).testBit i=true:=λi h=>by rw[Nat.testBit_or,h,Zi]
def X2(a c:Nat):∀i,(a&&& c).testBit i=true->a.testBit i=true:=λi h=>by rw[Eo,jq] at h;exact h.1
def am0(a c:Nat):∀i,(a&&& c).testBit i=true->c.testBit i=true:=λi h=>by rw[Eo,jq] at h;exact h.2
def am1(a c b:Nat):oZ (a|||c) b+oZ (a&&& c) b<=oZ a b+oZ c b:=by
 let W:=HA (b:=b) (HB a c);let h2:=HA (b:=b) (X1 a c);let Y:=uk (a|||c) b;let Z:=uk (a&&& c) b;let J:=uk a b;let O:=uk c b;rcases J with j|j
 .rcases O with m|m
  .let F:hZ a b=false:=by
    cases e:hZ a b with
    |false=>rfl
    |true=>delta oZ kY at j;rw[e] at j;cases j
   let z:hZ c b=false:=by
    cases e:hZ c b with
    |false=>rfl
    |true=>delta oZ kY at m;rw[e] at m;cases m
   let U:hZ (a&&& c) b=false:=(DL _ _).mpr λi hi=>by
    rw[Eo,(DL _ _).mp F i hi,(DL _ _).mp z i hi];rfl
   grind
  .lia
 .grind
def jk(l:cu)(s:Nat):Nat:=(l.J λp=>decide (p.1=s)).L
def jX(l:cu)(s g:Nat):Int:=((l.J λp=>decide (p.1=s)).M λp=>oZ g p.2).sum
def bj(lf:Nat->Int)(l:cu)(s g:Nat):Int:=(jk l s:Int)-lf s-jX l s g
def jl(n:Nat)(sm:Nat->Nat)(lf:Nat->Int)(g:Nat):Int:=((List.range n).M λb=>if g.testBit b=true then lf Äi else 0).sum
def i0(lf:Nat->Int)(l:cu)(g:Nat)(D:LN):Int:=(D.M λs=>cO (Ė g)).sum
def dq(n:Nat)(sm:Nat->Nat)(lf:Nat->Int)(l:cu)(D:LN)(g:Nat):Int:=jl n sm lf g-i0 lf l g D
theorem am2(hs:∀i,g.testBit i=true->h.testBit i=true)(l:cu)(s:Nat):jX l s h<=jX l s g:=by
 ext jX;generalize l.J (λp=>decide (p.1=s))=L;induction L with
 |nil=>simp
 |cons p L j=>
  let:=HA (b:=p.2) hs;grind
theorem am3(a c:Nat)(l:cu)(s:Nat):jX l s (a|||c)+jX l s (a&&& c)<=jX l s a+jX l s c:=by
 ext jX;generalize l.J (λp=>decide (p.1=s))=L;induction L with
 |nil=>simp
 |cons p L j=>
  let:=am1 a c p.2;grind
theorem DM(l:cu)(s g:Nat):0<=jX l s g/\jX l s g<=jk l s:=by
 ext jX jk;generalize l.J (λp=>decide (p.1=s))=L;induction L with
 |nil=>exact(IK _,IK _)
 |cons p L j=>
  let:=uk g p.2;simp only[a8,g7,df];omega
theorem am4(n:Nat)(sm:Nat->Nat)(lf:Nat->Int)(a c:Nat):jl n sm lf (a|||c)+jl n sm lf (a&&& c)=jl n sm lf a+jl n sm lf c:=by
 ext jl;generalize List.range n=L;induction L with
 |nil=>rfl
 |cons b L j=>
  let h:(if (a|||c).testBit b=true then lf Äi else 0)+(if (a&&& c).testBit b=true then lf Äi else 0)=(if a.testBit b=true then lf Äi else 0)+(if c.testBit b=true then lf Äi else 0):=by
   grind
  grind
def am5(h:x+y<=u+i)(j:x<=u)(h2:y<=u)(m:i<=x)(z:i<=y):cO x+cO y<=cO u+cO i:=by
 ext cO;lia
def A4(hs:∀i,g.testBit i=true->h.testBit i=true)(lf:Nat->Int)(l:cu)(s:Nat):Ė g<=bj lf l s h:=by
 let:=am2 hs l s;ext bj;symm
def X3(a c:Nat)(lf:Nat->Int)(l:cu)(s:Nat):Ė a+bj lf l s c<=bj lf l s (a|||c)+bj lf l s (a&&& c):=by
 let:=am3 a c l s;ext bj;lia
def Ow(a c:Nat)(lf:Nat->Int)(l:cu)(s:Nat):cO (Ė a)+cO (Ė c)<=cO (Ė (a|||c))+cO (Ė (a&&& c)):=
 am5 (X3 a c lf l s) (A4 (HB a c) lf l s) (A4 (X1 a c) lf l s) (A4 (X2 a c) lf l s) (A4 (am0 a c) lf l s)
theorem am6(a c:Nat)(lf:Nat->Int)(l:cu):∀D:LN,i0 lf l a D+i0 lf l c D<=i0 lf l (a|||c) D+i0 lf l (a&&& c) D:=by
 intro D;induction D with
 |nil=>exact IK _
 |cons s D m=>
  let j:=m;let h2:=Ow a c lf l s;delta i0 at j⊢;simp only[a8,g7];lia
theorem am7(a c:Nat)(lf:Nat->Int)(l:cu){s:Nat}{D:LN}:s∈D->(i0 lf l a D+i0 lf l c D)+(cO (Ė (a|||c))+cO (Ė (a&&& c))-cO (Ė a)-cO (Ė c))<=i0 lf l (a|||c) D+i0 lf l (a&&& c) D:=by
 induction D with
 |nil=>exact @λh=>absurd h Ä
 |cons x D m=>
  intro h;rcases aV.mp h with rfl|h
  .let j:=am6 a c lf l D;delta i0 at j⊢;simp only[a8,g7];lia
  .let j:=m h;let h2:=Ow a c lf l x;delta i0 at j⊢;simp only[a8,g7];lia
def am8{h b c:Nat}(j:h.testBit b=false)(h2:c.testBit b=true):h<h|||c:=by
 let m:h<=h|||c:=Nat.left_le_or;grind
def vD(lf:Nat->Int)(l:cu)(s b g:Nat):bj lf ((s,b)::l) s g=bj lf l s g+1-oZ g b:=by
 ext bj jk jX;grind
def A5(lf:Nat->Int)(l:cu)(b g:Nat)(h:s≠s'):bj lf ((s,b)::l) s' g=bj lf l s' g:=by
 ext bj jk jX;symm
def am9(n:Nat)(sm:Nat->Nat)(lf:Nat->Int)(l:cu){D:LN}{s:Nat}(hs:s∈D)(a c:Nat):dq n sm lf l D (a|||c)+dq n sm lf l D (a&&& c)+(cO (Ė (a|||c))+cO (Ė (a&&& c))-cO (Ė a)-cO (Ė c))<=dq n sm lf l D a+dq n sm lf l D c:=by
 let j:=am4 n sm lf a c;let h2:=am7 a c lf l hs;ext dq;lia
def Ox(n:Nat)(sm:Nat->Nat)(lf:Nat->Int)(l:cu)(D:LN)(s B:Nat):Prop:=∀g,g<2^n->0<=dq n sm lf l D g+cO (Ė g)-cO (Ė g+oZ g B)
def X4(n:Nat)(sm:Nat->Nat)(lf:Nat->Int)(l:cu)(D:LN)(s B b:Nat):Prop:=∀g,g<2^n->0<=dq n sm lf l D g+cO (Ė g)-cO (Ė g-1+oZ g B)-(if g.testBit b=true then 1 else 0)
def ana(n:Nat)(sm:Nat->Nat)(lf:Nat->Int)(r:cu){D:LN}{s B:Nat}(hs:s∈D)(h:∀g,g<2^n->0<=dq n sm lf Ý D g):
  Ox n sm lf Ý D s B\/∃b,B.testBit b=true/\X4 n sm lf Ý D s B b:=by
 apply QE λhn=>?_;let Aa:=λz=>hn (Or.inl z);let mz:=λb hb z=>hn (Or.inr ⟨b,hb,z⟩);let fG:∀(m g:Nat),2^n-g<=m->g<2^n->oZ g B=1->dq n sm lf Ý D g=0->0<=bj lf Ý s g->False:=by
  intro m;induction m with
  |zero=>omega
  |succ m ih=>
   intro g hm j Z h0 atN;let hob:hZ g B=true:=by
    cases e:hZ g B with
    |true=>rfl
    |false=>delta oZ kY at Z;rw[e] at Z;cases Z
   let(b,Fz,yk):=Hz.mp hob;let oQ:=mz b Fz;delta X4 at oQ;let ⟨c,hc⟩:=ash.mp oQ;let U:=QE λz=>hc λy=>absurd y z;let hc:¬0<=dq n sm lf Ý D c+cO (bj lf Ý s c)-cO (bj lf Ý s c-1+oZ c B)-(if c.testBit b=true then 1 else 0):=λz=>hc λ_=>z;let Cu:=h c U;let hco:=uk c B;let X5:c.testBit b=true:=by
    cases e:c.testBit b with
    |true=>rfl
    |false=>
     rw[e,ag d8] at hc;exfalso;apply hc;ext cO;lia
   rw[X5,af rfl] at hc;let Y:=Nat.or_lt_two_pow j U;let W:=Nat.and_lt_two_pow g U;let hU:=h _ Y;let hI:=h _ W;let F:=am9 n sm lf Ý hs g c;let J:=Ow g c lf Ý s;let hgU:=A4 (HB g c) lf Ý s;let O:=uk (g|||c) B;let hIo:=HA (b:=B) (X2 g c);let atR:=uk (g&&& c) B;let vb:=A4 (HB g c) lf r s;let n8:=X3 g c lf r s;let e1:=vD lf r s B g;let e2:=vD lf r s B c;let e3:=vD lf r s B (g|||c);let e4:=vD lf r s B (g&&& c);generalize hS0:dq n sm lf Ý D c=S0 at Cu hc F;generalize dq n sm lf Ý D (g&&& c)=SI at hI F;rw[h0] at F;let X6:S0=0/\(oZ c B=1\/bj lf Ý s c<=0):=by
    delta cO at hc;lia
   let(X6,js):=X6;rcases O with O|O
   .exfalso;delta cO at F J;omega
   .let hSU:dq n sm lf Ý D (g|||c)=0:=by lia
    let:=am8 yk X5;grind
 delta Ox at Aa;let ⟨g,j⟩:=ash.mp Aa;let oo:=QE λz=>j λy=>absurd y z;let j:¬0<=dq n sm lf Ý D g+cO Èv-cO (bj lf Ý s g+oZ g B):=λz=>j λ_=>z;let hgs:=h g oo;let tH:=uk g B;let hz:oZ g B=1/\dq n sm lf Ý D g=0/\0<=bj lf Ý s g:=by
  delta cO at j;grind
 exact fG _ g (bw _) oo hz.1 hz.2.1 hz.2.2
theorem ang(f:Nat->Int){a b:LN}(h:a.Perm b):(a.M f).sum=(b.M f).sum:=by
 induction h with
 |nil=>rfl
 |cons x _ m=>rw[a8,a8,g7,g7,m]
 |swap x y l=>
  simp only[a8,g7];lia
 |trans _ _ j h2=>exact j.R h2
theorem Oz(f:Nat->Int){D:LN}:(∀s∈D,f s=0)->(D.M f).sum=0:=by
 induction D with
 |nil=>exact @λ_=>Á
 |cons x D j=>
  intro h;rw[a8,g7,h x Ä,j λs hs=>h s (aQ _ hs)];rfl
theorem anh(f:Nat->Int):∀{A D:LN},A.Nodup->D.Nodup->(∀s∈A,s∉D->f s=0)->(∀s∈D,s∉A->f s=0)->(A.M f).sum=(D.M f).sum:=by
 intro A;induction A with
 |nil=>exact @λD _ _ _ h=>(Oz f λs hs=>h s hs Ä).symm
 |cons x A U=>
  intro D m F O h2;let(Y,m):=jZ.mp m;by_cases J:x∈D
  .let W:=List.perm_cons_erase J;rw[ang f W,a8,a8,g7,g7];congr 1;apply U m (F.erase x) (λs hs j=>?_) (λs hs j=>?_)
   .exact O s (aQ _ hs) λz=>j ((F.mem_erase_iff).mpr ⟨λe=>Y (e▸ hs),z⟩)
   .let(Z,z2):=(F.mem_erase_iff).mp hs;exact h2 s z2 λz=>(aV.mp z).elim Z j
  .rw[a8,g7,O x Ä J,ZX];exact U m F (λs hs=>O s (aQ _ hs)) λs hs j=>h2 s hs λz=>(aV.mp z).elim (λe=>J (e▸ hs)) j
theorem X7:∀(n:Nat)(l:LN),l.L<=n->l.eraseDups.Nodup
 |0,l,h=>by
  let:l=[]:=Qq.mp Å;rw[this];exact Bq
 |n+1,[],_=>Bq
 |n+1,a::l,h=>by
  rw[List.eraseDups_cons];apply jZ.mpr ⟨λz=>?_,X7 n _ ?_⟩
  .let:=asi.mp z;simp at this
  .let:=IE (λb=>!b==a) l;simp only[df] at h;lia
def vE(q:Nat->Bool)(n:Nat):Nat:=(((List.range n).J q).M (2^ ·)).sum
def X8(q:Nat->Bool)(n:Nat):vE q (n+1)=(if q n=true then 2^n else 0)+vE q n:=by
 ext vE;rw[IF,El,bZ,List.sum_append];grind
theorem OB(q:Nat->Bool):∀n,vE q n<2^n:=by
 intro n;induction n with
 |zero=>
  simp[vE]
 |succ n j=>
  rw[X8];let:=j;let e:2^(n+1)=2^n+2^n:=by rw[QA];lia
  split <;> omega
theorem X9(q:Nat->Bool):∀n b,(vE q n).testBit b=(decide (b<n)&&q b):=by
 intro n;induction n with
 |zero=>
  intro b;simp[vE]
 |succ n m=>
  intro b;rw[X8];let F:=OB q n;let m:=m b;by_cases h:q n=true
  .rw[af h];by_cases j:b<n
   .rw[asj j,m,eN j,eN Ô]
   .by_cases z:b=n
    .subst z;rw[asl,Ep F,h,eN Å];rfl
    .rw[fZ Ô,lU];apply Ep ?_;let J:2^(n+1)=2^n+2^n:=by rw[QA];lia
     let O:2^(n+1)<=2^b:=IH Ù Ô;omega
  .rw[ag h,xH,m];by_cases j:b<n
   .rw[eN j,eN á]
   .by_cases z:b=n
    .subst z;let:q b=false:=by simpa using h
     rw[this,zj,zj]
    .rw[fZ j,fZ á]
theorem ani(q:Nat->Bool):∀l:LN,l.J q∈Flags.choices l:=by
 intro l;induction l with
 |nil=>
  simp[Flags.choices]
 |cons x l j=>
  let j:=j;ext Flags.choices;by_cases h:q x=true
  .rw[Br h];exact uI _ (b9.mpr ⟨_,j,Á⟩)
  .rw[Bs h];exact Bh _ j
def di(sames:LN)(p:Nat×Nat):Flags.Spot:=⟨p.1,(pG sames.L p.2).M λb=>sames.D b 0⟩
def aZ(left:LN):Nat->Int:=λk=>((left.D k 0:Nat):Int)
def Yb(sames left:LN)(l:cu)(s:Nat):Flags.lacks left Æu s=jk l s-left.D s 0:=by
 ext Flags.lacks jk;rw[zo,az];congr 2
def anj(sames:LN)(l:cu)(s g:Nat)(y:LN)(Z:∀b,b<sames.L->g.testBit b=!y.Y ň)(J:∀p∈l,p.2<2^sames.L):
  (((l.M ö).J λp=>p.sign==s&&p.may.any λk=>y.Y k).L:Int)=jX l s g:=by
 rw[zo,az];ext jX;induction l with
 |nil=>rfl
 |cons p l j=>
  let j:=j λx W=>J x (aQ _ W);let U:=J p Ä;let Y:(di sames p).may.any (λk=>y.Y k)=hZ g p.2:=by
   ext di;rw[Qe,pW,pX,Hz];ext pG;constructor
   .rintro⟨b,F,h⟩;let(m,h2):=jF.mp F;simp at m;apply(b,by rw[<-yV];exact h2,?_);symm
   .rintro⟨b,m,h2⟩;let F:b<sames.L:=by
     apply ZE λz=>?_;let:p.2.testBit b=false:=Ep (iD U (IH Ù z));symm
    apply(b,jF.mpr ⟨by simp_all,by rw[yV];exact m⟩,?_);symm
  by_cases hs:p.1=s
  .rw[Br (l:=l) (p:=λp=>decide (p.1=s)) Å,a8,g7,<-j];let O:((di sames p).sign==s)=true:=by simpa [di] using hs
   cases eb:hZ g p.2 with
   |true=>
    rw[Br Å,df];ext oZ kY;grind
   |false=>
    rw[Bs Å];ext oZ kY;symm
  .rw[Bs (l:=l) (p:=λp=>decide (p.1=s)) Å,<-j];let O:((di sames p).sign==s)=false:=by simpa [di] using hs
   symm
theorem sum_nat(f:Nat->Nat):∀l:LN,(((l.M f).sum:Nat):Int)=(l.M λs=>((f s:Nat):Int)).sum:=by
 intro l;induction l with
 |nil=>exact Á
 |cons x l j=>
  rw[a8,a8,g7,g7,Int.natCast_add,j]
theorem sum_add(f g h:Nat->Int){l:LN}:(∀s∈l,f s=g s+h s)->(l.M f).sum=(l.M g).sum+(l.M h).sum:=by
 induction l with
 |nil=>exact @λ_=>Á
 |cons x l j=>
  intro e;rw[a8,a8,a8,g7,g7,g7,e x Ä,j λs hs=>e s (aQ _ hs)];lia
def ank(sames left:LN)(g:Nat)(y:LN)(O:∀b,b<sames.L->g.testBit b=!y.Y ň):
  ((((sames.J λk=>!y.Y k).M λk=>left.D k 0).sum:Nat):Int)=jl sames.L Ãg å g:=by
 let gen:∀(L:LN)(o:Nat),(∀b,b<L.L->g.testBit (o+b)=!y.Y Çf)->((((L.J λk=>!y.Y k).M λk=>left.D k 0).sum:Nat):Int)=((List.range L.L).M λb=>if g.testBit (o+b)=true then aZ left Çf else 0).sum:=by
  intro L;induction L with
  |nil=>intro o _;rfl
  |cons x L F=>
   intro o h;let m:=h 0 Ä;rw[ZD] at m;let m:g.testBit o=!y.Y x:=m;let F:=F (o+1) λb z=>by
    let:=h (b+1) (À z);rw[show o+1+b=o+(b+1) by lia,this];rfl
   rw[df,Ed,a8,g7,cZ];let J:(List.range L.L).M ((λb=>if g.testBit (o+b)=true then aZ left ((x::L).D b 0) else 0)∘Nat.succ)=(List.range L.L).M λb=>if g.testBit (o+1+b)=true then aZ left Çf else 0:=by
    apply lh;intro b _;show(if g.testBit (o+(b+1))=true then aZ left Çf else 0)=_;rw[show o+(b+1)=o+1+b by lia]
   rw[J,<-F,ZD];show _=(if g.testBit o=true then aZ left x else 0)+_;rw[m];by_cases j:y.Y x=true
   .rw[j,Bs (by rw[j];decide)];simp
   .let j:y.Y x=false:=by simpa using j
    rw[j,Br (by rw[j];rfl),a8,g7,Int.natCast_add];rfl
 let:=gen sames 0 λb z=>by rw[xH];exact O b z
 simp only[xH] at this;exact this
def yW(lf:Nat->Int)(l:cu)(D:LN):Prop:=∀s,s∉D->(jk l s:Int)<=lf s
def OC(h:s∉l.M (·.1)):jk l s=0:=by
 ext jk;rw[Qq,ar9];grind
def Yc(sames left:LN)(l:cu)(y:LN)(g:Nat)(O:∀b,b<sames.L->g.testBit b=!y.Y ň)(Z:∀p∈l,p.2<2^sames.L){D:LN}(Y:D.Nodup)(U:yW å l D):
  ((((l.M ö).M λp=>p.sign).eraseDups.map (Flags.lacks left Æu)).sum<=((sames.J λk=>!y.Y k).M λk=>left.D k 0).sum+(((l.M ö).M λp=>p.sign).eraseDups.map λs=>min Àc (((l.M ö).J λp=>p.sign==s&&p.may.any λk=>y.Y k).L)).sum)↔
   0<=dq sames.L Ãg å l D g:=by
 let j:(l.M ö).M (λp=>p.sign)=l.M (·.1):=by
  rw[cZ];rfl
 rw[j];let h1:=ank sames left g y O;let h2:=sum_nat (Flags.lacks left Æu) (l.M (·.1)).eraseDups;let h3:=sum_nat (λs=>min Àc (((l.M ö).J λp=>p.sign==s&&p.may.any λk=>y.Y k).L)) (l.M (·.1)).eraseDups;let h4:=sum_add (λs=>((Flags.lacks left Æu s:Nat):Int)) (λs=>((min Àc (((l.M ö).J λp=>p.sign==s&&p.may.any λk=>y.Y k).L):Nat):Int)) (λs=>cO (bj å l s g)) (l:=(l.M (·.1)).eraseDups) λs _=>by
  let F:=anj sames l s g y O Z;let W:=Yb sames left l s;let J:=DM l s g;generalize ((l.M ö).J λp=>p.sign==s&&p.may.any λk=>y.Y k).L=o at F;rw[W];ext bj cO aZ;lia
 let h5:=anh (λs=>cO (bj å l s g)) (A:=(l.M (·.1)).eraseDups) (D:=D) (X7 _ _ (bw _)) Y (λs _ m=>?_) (λs _ m=>?_)
 .ext dq i0;omega
 .let F:=U s m;let J:=DM l s g;ext bj cO;lia
 .let e0:=OC λz=>m (asi.mpr z);let J:=DM l s g;ext bj cO aZ;lia
def Yd{L:Flags.Locker}{sames:LN}(hs:L.sameKinds=sames)(J:sames.Nodup)(left:LN)(l:cu)(z:∀p∈l,p.2<2^sames.L){D:LN}(m:D.Nodup)(j:yW å l D):
  L.enough left Æu=true↔ ∀g,g<2^sames.L->0<=dq sames.L Ãg å l D g:=by
 ext Flags.Locker.enough;rw[hs,lV];constructor
 .intro h g O;let F:=h _ (ani (λk=>!g.testBit (sames.idxOf k)) sames);rw[nD] at F;refine(Yc sames left l _ g đ z m j).mp F;symm
 .intro h y _;rw[nD];refine(Yc sames left l y (vE (λb=>!y.Y ň) sames.L) đ z m j).mpr (h _ (OB _ _));rw[X9,eN hb,lW]
end HD
namespace HD
open PySem L2
def fC(n:Nat)(sm:Nat->Nat)(lf:Nat->Int)(l:cu)(D:LN):ik:=(D.M λs=>(s,(List.range (2^n)).M (bj lf l s)),(List.range (2^n)).M (dq n sm lf l D))
def dec(lf:Nat->Int)(k:Nat):Nat->Int:=λj=>if j=k then lf j-1 else lf j
def Ye(f:Nat->Int)(h:g<G):((List.range G).M f).D g 0=f g:=by
 symm
def pQ{G:Nat}{f h:Nat->Int}(e:∀g,g<G->f g=h g):(List.range G).M f=(List.range G).M h:=by
 symm
def DN(f:Nat->Int)(G:Nat):oB ((List.range G).M f)=true↔ ∀g,g<G->0<=f g:=by
 ext oB;simp
theorem Fl(f:Nat->β)(s:Nat):∀D:LN,b7 (D.M λx=>(x,f x)) s=if s∈D then some (f s) else none:=by
 intro D;induction D with
 |nil=>exact Á
 |cons x D j=>
  let j:=j;delta b7 at j⊢;rw[a8];by_cases h:x=s
  .subst h;rw[List.find?_cons_of_pos Ä,af Ä];rfl
  .rw[asm (À h),j];by_cases h2:s∈D
   .rw[af h2,af (aQ _ h2)]
   .rw[ag h2,ag (λz=>(aV.mp z).elim (λe=>h e.symm) h2)]
def Yg{β:Type}(f:Nat->β){s:Nat}(v:β){D:LN}(h:s∈D):eC (D.M λx=>(x,f x)) s v=D.M λx=>(x,if x=s then v else f x):=by
 ext eC;let j:((D.M λx=>(x,f x)).any λp=>decide (p.1=s))=true:=by
  symm
 rw[af j,cZ];apply lh;grind
theorem HE(f h:Nat->Int){s:Nat}{D:LN}:D.Nodup->s∈D->(∀x∈D,x≠s->h x=f x)->(D.M h).sum=(D.M f).sum-f s+h s:=by
 induction D with
 |nil=>exact @λ_ hs _=>absurd hs Ä
 |cons x D J=>
  intro nd hs e;let(F,nd):=jZ.mp nd;rw[a8,a8,g7,g7];by_cases m:x=s
  .subst m;let:(D.M h).sum=(D.M f).sum:=by
    congr 1;apply lh;intro y j;exact e y (aQ _ j) λz=>F (z▸ j)
   rw[this];lia
  .let Z:=(aV.mp hs).elim (λz=>absurd z.symm m) id;rw[J nd Z λy j=>e y (aQ _ j),e x Ä m];lia
def Yh{n:Nat}{sm:Nat->Nat}{lf:Nat->Int}{k:Nat}(h:∀b,b<n->sm b≠k)(g:Nat):jl n sm (dec lf k) g=jl n sm lf g:=by
 ext jl;congr 1;apply lh;intro b j;ext dec;symm
def anm{sm:Nat->Nat}{lf:Nat->Int}(m:b<n)(hi:∀a,a<n->sm a=sm b->a=b)(g:Nat):jl n sm Án g=jl n sm lf g-(if g.testBit b=true then 1 else 0):=by
 ext jl;let:=HE (λa=>if g.testBit a=true then lf (sm a) else 0) (λa=>if g.testBit a=true then dec lf Äi (sm a) else 0) (s:=b) (D:=List.range n) Z1 Å λx z j=>by
  ext dec;grind
 rw[this];let e:dec lf Äi Äi=lf Äi-1:=by ext dec;rw[af rfl]
 grind
def OD(lf:Nat->Int)(l:cu)(s g:Nat):bj Âw l s g=bj lf l s g+1:=by
 ext bj dec;rw[af rfl];lia
def xt(lf:Nat->Int)(l:cu){s k:Nat}(h:s≠k)(g:Nat):bj (dec lf k) l s g=bj lf l s g:=by
 ext bj dec;rw[ag h]
section
variable{n:Nat}{sm:Nat->Nat}{lf:Nat->Int}{r:cu}{D:LN}{s B:Nat}
def Yi(m:s∈D)(nd:D.Nodup)(j:∀b,b<n->sm b≠s)(g:Nat):dq n sm Âw r D g=dq n sm lf Ý D g+cO Èv-cO (bj lf Ý s g+oZ g B):=by
 ext dq;rw[Yh j];let:=HE (λx=>cO (bj lf Ý x g)) (λx=>cO (bj Âw r x g)) nd m λx _ aU=>by
  rw[xt _ _ aU,A5 _ _ _ _ Åp]
 ext i0;rw[this,OD,vD];grind
def Yj{b:Nat}(j:b<n)(hi:∀a,a<n->sm a=sm b->a=b)(m:s∈D)(nd:D.Nodup)(Y:sm b∉D)(g:Nat):dq n sm Án r D g=dq n sm lf Ý D g+cO Èv-cO (bj lf Ý s g-1+oZ g B)-(if g.testBit b=true then 1 else 0):=by
 ext dq;rw[anm j hi];let:=HE (λx=>cO (bj lf Ý x g)) (λx=>cO (bj Án r x g)) nd m λx F aU=>by
  rw[xt _ _ (λz=>Y Å),A5 _ _ _ _ Åp]
 ext i0;rw[this,xt _ _ (λz=>Y Å),vD];grind
def Yk(F:s∉D)(j:∀b,b<n->sm b≠s)(g:Nat):dq n sm Âw r D g=dq n sm lf Ý D g:=by
 ext dq i0;rw[Yh j];congr 2;apply lh;intro x m;let aU:x≠s:=λz=>F (z▸ m);rw[xt _ _ aU,A5 _ _ _ _ Åp]
def ano(j:s∉D)(m:∀b,b<n->sm b≠s):fC n sm lf Ý D=fC n sm Âw r D:=by
 ext fC;congr 1
 .apply lh;intro x F;let aU:x≠s:=λz=>j (z▸ F);congr 1;exact pQ λg _=>by rw[xt _ _ aU,A5 _ _ _ _ Åp]
 .exact pQ λg _=>(Yk j m g).symm
def Yl:uc 0=0:=rfl
def Ym(b:Nat):uc (2^b)= -1:=by
 ext uc;let:0<2^b:=Nat.two_pow_pos b;grind
def OE(f:Nat->Int)(G B same:Nat):iZ ((List.range G).M f) B same=(List.range G).M λg=>f g+uc same+oZ g B:=by
 ext iZ;symm
def Yn(f h:Nat->Int)(G B same:Nat):jB ((List.range G).M f) ((List.range G).M h) B same=(List.range G).M λg=>h g+cO (f g)-cO (f g+uc same+oZ g B)-kY (vw g same):=by
 ext jB;rw[az,gq,OE];symm
def Yo(m:s∈D)(nd:D.Nodup)(j:∀b,b<n->sm b≠s):jB ((List.range (2^n)).M Çc) (fC n sm lf Ý D).2 B 0=(List.range (2^n)).M (dq n sm Âw r D):=by
 ext fC;rw[Yn];exact pQ λg _=>by
  rw[Yi (B:=B) m nd j,Yl,amZ,show kY false=0 from rfl,Int.add_zero,Int.sub_zero]
def OF(j:b<n)(hi:∀a,a<n->sm a=sm b->a=b)(m:s∈D)(nd:D.Nodup)(Y:sm b∉D):jB ((List.range (2^n)).M Çc) (fC n sm lf Ý D).2 B (2^b)=(List.range (2^n)).M (dq n sm Án r D):=by
 ext fC;rw[Yn];exact pQ λg _=>by
  rw[Yj (B:=B) j hi m nd Y,Ym,amY];rfl
def anp(j:s∈D)(nd:D.Nodup)(m:∀b,b<n->sm b≠s):si (fC n sm lf Ý D) s B 0 ((List.range (2^n)).M Çc)=fC n sm Âw r D:=by
 ext si;rw[Yo j nd m];ext fC;rw[Yg _ _ j,OE];congr 1;apply lh;intro x z;congr 1;by_cases h:x=s
 .rw[af h,h];exact pQ λg _=>by rw[OD,vD,Yl];symm
 .rw[ag h];exact pQ λg _=>by rw[xt _ _ h,A5 _ _ _ _ (dj h)]
def anq{b:Nat}(m:b<n)(hi:∀a,a<n->sm a=sm b->a=b)(j:s∈D)(nd:D.Nodup)(Y:sm b∉D):si (fC n sm lf Ý D) s B (2^b) ((List.range (2^n)).M Çc)=fC n sm Án r D:=by
 ext si;rw[OF m hi j nd Y];ext fC;rw[Yg _ _ j,OE];congr 1;apply lh;intro x F;congr 1;let U:x≠sm b:=λz=>Y (z▸ F);by_cases h:x=s
 .rw[af h,h];exact pQ λg _=>by rw[xt _ _ (h▸ U),vD,Ym];lia
 .rw[ag h];exact pQ λg _=>by rw[xt _ _ U,A5 _ _ _ _ (dj h)]
end
abbrev cA(sames:LN):Nat->Nat:=λb=>sames.D b 0
structure oH(sames left:LN)(l:cu)(D:LN):Prop where
 nd:D.Nodup
 A6:yW å l D
 bits:∀p∈l,p.2<2^sames.L
 sgn:∀p∈l,∀b,b<sames.L->cA sames b≠p.1
 sd:∀b,b<sames.L->cA sames b∉D
 all:∀g,g<2^sames.L->0<=dq sames.L Ą å l D g
def uo(h:0<left.D f 0):aZ Ę=dec å f:=by
 let m:f<left.L:=by
  grind
 funext j;ext aZ dec Flags.less1;grind
def HF(nd:sames.Nodup)(m:b<sames.L):∀a,a<sames.L->cA sames a=cA sames b->a=b:=λa j e=>by
 delta cA at e;rw[ip,ip,c7 j,c7 m] at e;exact(Zm nd).mp e
def cnt_cons(r:cu)(s B:Nat):jk Ý s=jk r s+1:=by
 ext jk;simp
def HG(r:cu)(B:Nat)(h:s≠x):jk Ý x=jk r x:=by
 ext jk;symm
def anr(n:Nat)(sm:Nat->Nat)(lf:Nat->Int):jl n sm lf 0=0:=by
 ext jl;exact Oz _ λb _=>by rw[Nat.zero_testBit,ag d8]
def ans(m:b<n):jl n sm lf (2^b)=lf Äi:=by
 ext jl;let:=HE (λ_=>(0:Int)) (λa=>if (2^b).testBit a=true then lf (sm a) else 0) (s:=b) (D:=List.range n) Z1 Å λx z j=>by
  grind
 rw[this,Oz _ λ_ _=>rfl,asf,af rfl];symm
def OG(z:Int):0<=cO z:=by ext cO;split <;> lia
theorem Yp(lf:Nat->Int)(l:cu)(g:Nat):∀D:LN,0<=i0 lf l g D:=by
 intro D;induction D with
 |nil=>exact IK _
 |cons s D m=>
  let j:=m;let h2:=OG (Ė g);delta i0 at j⊢;rw[a8,g7];lia
theorem ant(lf:Nat->Int)(l:cu)(g:Nat){s:Nat}{D:LN}:s∈D->cO (Ė g)<=i0 lf l g D:=by
 induction D with
 |nil=>exact @λh=>absurd h Ä
 |cons x D z=>
  intro h;let j:=Yp lf l g D;let h2:=OG (bj lf l x g);rcases aV.mp h with rfl|h
  .delta i0 at j⊢;rw[a8,g7];lia
  .let m:=z h;delta i0 at j m⊢;rw[a8,g7];lia
def anu{sm:Nat->Nat}(hs:s∈D)(h:0<=dq n sm Ät r D 0):0<left.D s 0:=by
 apply asn λz=>?_;let j:=ant Ät r 0 hs;let h2:=DM r s 0;let m:=OD å r s 0;delta dq at h;rw[anr] at h;let F:bj å r s 0=(jk r s:Int)-jX r s 0:=by ext bj aZ;rw[z];rfl
 delta cO at j;omega
def anv(j:b<n)(h:0<=dq n sm (dec å Äi) r D (2^b)):0<left.D Äi 0:=by
 let m:=Yp (dec å Äi) r (2^b) D;delta dq at h;rw[ans j] at h;let:dec å Äi Äi=((left.D Äi 0:Nat):Int)-1:=by ext dec aZ;rw[af rfl]
 lia
section
variable{L:Flags.Locker}{sames left:LN}{r:cu}{D:LN}{s B:Nat}
def oH.sign(c:Àg Ý D)(z:0<left.D s 0)(h:∀g,g<2^sames.L->0<=dq sames.L Ą Ät r D g):oH sames (Flags.less1 left s) r D:=by
 apply(c.nd,λx F=>?_,λp j=>c.bits p (aQ _ j),λp j=>c.sgn p (aQ _ j),c.sd,by rw[uo z];exact h);rw[uo z];let:=c.A6 x F;ext dec;by_cases m:x=s
 .subst m;rw[cnt_cons] at this;rw[af rfl];lia
 .rw[HG _ _ (dj m)] at this;rw[ag m];exact this
def oH.same(c:Àg Ý D){b:Nat}(O:b<sames.L)(m:0<left.D Ī 0)(hs:s∈D)(h:∀g,g<2^sames.L->0<=dq sames.L Ą (dec å Ī) r D g):oH sames (Flags.less1 left Ī) r D:=by
 apply(c.nd,λx F=>?_,λp j=>c.bits p (aQ _ j),λp j=>c.sgn p (aQ _ j),c.sd,by rw[uo m];exact h);rw[uo m];let:=c.A6 x F;let W:x≠s:=λz=>F (z▸ hs);rw[HG _ _ (dj W)] at this;ext dec;by_cases U:x=cA sames b
 .rw[af U];let J:jk r x=0:=OC λz=>by
   let(p,j,e):=b9.mp z;exact c.sgn p (aQ _ j) b O (by rw[<-U];exact e.symm)
  rw[J];let:aZ left x=((left.D Ī 0:Nat):Int):=by rw[U];rfl
  lia
 .rw[ag U];exact this
def A7(m:L.sameKinds=sames)(nd:sames.Nodup)(c:Àg Ý D)(j:0<left.D f 0)(hd:yW (dec å f) r D):L.enough Ę Át=true↔ ∀g,g<2^sames.L->0<=dq sames.L Ą (dec å f) r D g:=by
 let:=Yd m nd Ę r (λp z=>c.bits p (aQ _ z)) c.nd (by rw[uo j];exact hd);rw[uo j] at this;exact this
def A8(L:Flags.Locker)(sames left:LN)(s B:Nat)(r:cu):Nat:=(((di sames (s,B)).sign::if 0<Flags.lacks left (((s,B)::r).M ö) (di sames (s,B)).sign then (di sames (s,B)).may else []).J λ(f:Nat)=>decide (0<left.D f 0)&&L.enough Ę Át).headD 0
def Yq(h:(decide (0<left.D s 0)&&L.enough (Flags.less1 left s) Át)=true):A8 L sames left s B r=s:=by
 ext A8;rw[xJ,af (show(decide (0<left.D (di sames (s,B)).sign 0)&&L.enough (Flags.less1 left (di sames (s,B)).sign) Át)=true from h)];rfl
def anw:L.fill (((s,B)::r).M ö) left=A8 L sames left s B r::L.fill Át (Flags.less1 left (A8 L sames left s B r)):=rfl
def anx(sames:LN)(st:ik)(s B:Nat)(row:LI)(P:Nat->Bool):∀bs:LN,(∀b∈bs,oB (jB row st.2 B (2^b))=P Ī)->(∃b∈bs,P Ī=true)->
  ∃b∈bs,vy sames st s B row bs=Α (cA sames b,si st s B (2^b) row)/\P Ī=true/\((bs.M Ą).J P).headD 0=cA sames b:=by
 intro bs;induction bs with
 |nil=>
  intro _ h;let(b,W,_):=h;cases W
 |cons b bs ih=>
  intro F h;let m:=F b Ä;ext vy;by_cases j:P Ī=true
  .rw[m,af j];apply(b,by simp,rfl,j,?_);rw[a8,Br j];rfl
  .rw[m,ag j];let(x,Z,Y):=h;let wq:=(aV.mp Z).elim (λz=>absurd (z▸ Y) j) id;let(y,hy,J,O,U):=ih (λz hz=>F z (aQ _ hz)) ⟨x,wq,Y⟩;apply(y,aQ _ hy,J,O,?_);rw[a8,Bs j];exact U
def anz(U:L.sameKinds=sames)(nd:sames.Nodup)(c:Àg Ý D):
  ∃f,oC sames ģ s B=Α (f,fC sames.L Ą (aZ Ę) r D)/\oH sames Ę r D/\A8 L sames left s B r=f:=by
 let W:=c.sgn (s,B) Ä;by_cases hs:s∈D
 .let Y:oC sames ģ s B=if oB (jB ((List.range (2^sames.L)).M Âf) (fC sames.L Ą å Ý D).2 B 0)=true then some (s,si ģ s B 0 ((List.range (2^sames.L)).M Âf))
    else vy sames ģ s B ((List.range (2^sames.L)).M Âf) (pG sames.L B):=by
   ext oC;let:b7 (fC sames.L Ą å Ý D).1 s=Α ((List.range (2^sames.L)).M Âf):=(Fl (λx=>(List.range (2^sames.L)).M (bj å Ý x)) s D).R (af hs);rw[this]
  rw[Yo hs c.nd W,anp hs c.nd W] at Y;let Fg:yW Ät r D:=λx Z=>by
   let:=c.A6 x Z;let pR:x≠s:=λz=>Z (z▸ hs);rw[HG _ _ (dj pR)] at this;ext dec;symm
  by_cases ax:oB ((List.range (2^sames.L)).M (dq sames.L Ą Ät r D))=true
  .rw[af ax] at Y;let ax:=(DN _ _).mp ax;let j:=anu hs (ax 0 (Nat.two_pow_pos _));apply(s,by rw[Y,uo j],c.sign j ax,Yq ?_);rw[eN j,(A7 U nd c j Fg).mpr ax];rfl
  .rw[ag ax] at Y;let ax:=λz=>ax ((DN _ _).mpr z);let Ys:¬Ox sames.L Ą å Ý D s B:=λz=>ax λg J=>by
    rw[Yi (B:=B) hs c.nd W];exact z g J
   let hex:=(ana _ _ _ r hs c.all).resolve_left Ys;let wC:∀b∈pG sames.L B,b<sames.L/\B.testBit b=true:=λb m=>by
    delta pG at m;let(h1,h2):=jF.mp m;rw[yV] at h2;symm
   let OI:∀b,b<sames.L->0<left.D Ī 0->yW (dec å Ī) r D:=λb m j x Z=>by
    let:=c.A6 x Z;let pR:x≠s:=λz=>Z (z▸ hs);rw[HG _ _ (dj pR)] at this;ext dec;by_cases um:x=cA sames b
    .rw[af um];let e0:jk r x=0:=OC λz=>by
      let(p,hp,e):=b9.mp z;exact c.sgn p (aQ _ hp) b m Ô
     rw[e0];let:aZ left x=((left.D Ī 0:Nat):Int):=by rw[um];rfl
     omega
    .symm
   let hP:∀b,b<sames.L->oB (jB ((List.range (2^sames.L)).M Âf) (fC sames.L Ą å Ý D).2 B (2^b))=(decide (0<left.D Ī 0)&&L.enough (Flags.less1 left Ī) Át):=λb m=>by
    rw[OF m (HF nd m) hs c.nd (c.sd b m),pW,DN,jq,nD];constructor
    .intro h;let j:=anv m (h (2^b) (Nat.pow_lt_pow_right Ù m));exact(j,(A7 U nd c j (OI b m j)).mpr h)
    .rintro⟨j,h⟩;exact(A7 U nd c j (OI b m j)).mp h
   let(b0,hb0,anB):=hex;let F:b0<sames.L:=by
    apply ZE λz=>?_;let hB:=c.bits (s,B) Ä;let:B.testBit b0=false:=Ep (iD hB (IH Ù z));symm
   let(b,m,e1,e2,e3):=anx sames ģ s B ((List.range (2^sames.L)).M Âf) (λf=>decide (0<left.D f 0)&&L.enough Ę Át) (pG sames.L B) (λb m=>hP b (wC b m).1)
    ⟨b0,jF.mpr ⟨À F,by rw[yV];exact hb0⟩,by
     rw[<-hP b0 F,OF F (HF nd F) hs c.nd (c.sd b0 F),DN];intro g J;rw[Yj (B:=B) F (HF nd F) hs c.nd (c.sd b0 F)];exact anB g J⟩
   let kT:=(wC b m).1;let e2:=e2;let O:=e2;rw[jq,nD] at O;let jx:=(A7 U nd c O.1 (OI b kT O.1)).mp O.2;apply(cA sames b,?_,c.E kT O.1 hs jx,?_)
   .rw[Y,e1,anq kT (HF nd kT) hs c.nd (c.sd b kT),uo O.1]
   .let hnp:¬(decide (0<left.D (di sames (s,B)).sign 0)&&L.enough (Flags.less1 left (di sames (s,B)).sign) Át)=true:=λz=>by
     let z:=z;rw[jq,nD] at z;exact ax ((A7 U nd c z.1 Fg).mp z.2)
    let anD:0<Flags.lacks left (((s,B)::r).M ö) (di sames (s,B)).sign:=by
     apply asn λz=>Ys λg J=>?_;let z:Flags.lacks left (((s,B)::r).M ö) s=0:=z;rw[Yb] at z;let h1:=DM r s g;let h2:=vD å r s B g;let h3:=c.all g J;let h4:bj å r s g+1<=0:=by
      rw[cnt_cons] at z;ext bj aZ;lia
     let h5:=OG (bj å Ý s g);rw[h2] at h5⊢;rw[show bj å r s g+1-oZ g B+oZ g B=bj å r s g+1 by simp_all];let h6:cO (bj å r s g+1)=0:=by ext cO;rw[ag Å]
     lia
    ext A8;rw[xJ,ag hnp,af anD];exact e3
 .let Y:oC sames ģ s B=Α (s,fC sames.L Ą å Ý D):=by
   ext oC;let:b7 (fC sames.L Ą å Ý D).1 s=Β:=(Fl (λx=>(List.range (2^sames.L)).M (bj å Ý x)) s D).R (ag hs);symm
  let j:0<left.D s 0:=by
   let:=c.A6 s hs;rw[cnt_cons] at this;delta aZ at this;lia
  let jx:∀g,g<2^sames.L->0<=dq sames.L Ą Ät r D g:=λg J=>by
   rw[Yk (B:=B) hs W];exact c.all g J
  let cs:=c.sign j jx;apply(s,by rw[Y,uo j,ano hs W],cs,Yq ?_);let hd:=cs.A6;rw[uo j] at hd;rw[eN j,(A7 U nd c j hd).mpr jx];rfl
end
section
variable{L:Flags.Locker}{sames:LN}{D:LN}
def anE(W:L.sameKinds=sames)(nd:sames.Nodup)(l:cu):∀(bT:cu)(left:LN),Àg (l++bT) D->
  ∃fs Y,oE sames (fC sames.L Ą å (l++bT) D) l=Α (fs,fC sames.L Ą (aZ Y) bT D)/\oH sames Y bT D/\L.fill ((l++bT).M ö) left=fs++L.fill (bT.M ö) Y:=by
 induction l with
 |nil=>exact @λbT left c=>⟨[],left,Á,c,Á⟩
 |cons m l Z=>
  let(s,B):=m;intro bT left c;let(f,j,z,J):=anz W nd (show oH sames left ((s,B)::(l++bT)) D from c);let(fs,Y,O,F,U):=Z bT Ę z;apply(f::fs,Y,?_,F,?_)
  .ext oE;let j:oC sames (fC sames.L Ą å ((s,B)::l++bT) D) (s,B).1 (s,B).2=Α (f,fC sames.L Ą (aZ Ę) (l++bT) D):=j;rw[j];dsimp only;rw[O]
  .let:=anw (L:=L) (sames:=sames) (left:=left) (r:=l++bT) (s:=s) (B:=B);rw[J,U] at this;exact this
def anF(O:L.sameKinds=sames)(nd:sames.Nodup)(ps:List cu):∀(left:LN),Àg ps.flatten D->
  ∃x,m9 sames (fC sames.L Ą å ps.flatten D) ps=Α x/\L.fill (ps.flatten.M ö) left=x.1.flatten:=by
 induction ps with
 |nil=>exact @λleft c=>⟨_,Á,Á⟩
 |cons p ps U=>
  intro left c;let(fs,Y,m,j,z):=anE O nd p ps.flatten left c;let(x,F,J):=U Y j;apply((fs::x.1,x.2),?_,?_)
  .ext m9;rw[QD,m];dsimp only;rw[F]
  .rw[QD,z,J];rfl
end
theorem anG:∀hs:bq,Flags.pieces (hs.M List.length) hs.flatten=hs:=by
 intro hs;induction hs with
 |nil=>exact Á
 |cons h hs j=>
  rw[a8,QD];ext Flags.pieces;rw[List.take_left,List.drop_left,j]
theorem z5{β:Type}{t:List (Nat×β)}(nd:(t.M (·.1)).Nodup){p:Nat×β}(h:p∈t):b7 t p.1=Α p.2:=by
 induction t with
 |nil=>cases h
 |cons x t m=>
  let(j,nd):=jZ.mp nd;ext b7;rcases aV.mp h with rfl|h
  .simp
  .let:x.1≠p.1:=λz=>j Å;rw[asm Å];exact m nd h
theorem anH(l:cu)(s g:Nat):((r6 g ((l.J λp=>decide (p.1=s)).M (·.2)):Nat):Int)=jX l s g:=by
 ext r6 jX;generalize l.J (λp=>decide (p.1=s))=M;induction M with
 |nil=>rfl
 |cons p M j=>
  rw[a8,a8,g7,<-j];ext oZ kY;grind
theorem Yt(l:cu)(s:Nat):jk l s=(l.M (·.1)).count s:=by
 ext jk;induction l with
 |nil=>rfl
 |cons p l j=>
  rw[a8,List.count_cons];by_cases h:p.1=s
  .rw[Br (À h),df,j];simp[h]
  .rw[Bs (À h),j];simp[h]
theorem anI(G:Nat)(h:Nat->Nat->Int)(D:LN):∀(f:Nat->Int),sf G ((List.range G).M f) (D.M λs=>(s,(List.range G).M (h s)))=(List.range G).M λg=>f g-(D.M λs=>cO (h s g)).sum:=by
 induction D with
 |nil=>exact @λf=>pQ λg _=>by rw[mr,List.sum_nil];symm
 |cons s D m=>
  intro f;let e:yN G ((List.range G).M f) ((List.range G).M (h s))=(List.range G).M λg=>f g-cO (h s g):=by
   ext yN;exact pQ λg j=>by rw[Ye f j,Ye _ j]
  rw[a8];show sf G (yN G ((List.range G).M f) ((List.range G).M (h s))) _=_;rw[e,m];exact pQ λg _=>by rw[a8,g7];lia
abbrev jD(ms:aG):LN:=ms.M λm=>m.copies.toNat
theorem HH{ms:aG}(hc:∀m∈ms,0<=m.copies)(s:Nat):tX ms s=aZ (jD ms) s:=by
 ext tX aZ jD;cases e:ms[s]? with
 |none=>
  rw[ip,ip,bU,e];rfl
 |some m=>
  rw[ip,ip,bU,e];let:=hc m (bY e);show m.copies=((m.copies.toNat:Nat):Int);lia
theorem anJ(hc:∀m∈ms,0<=m.copies)(sames:LN)(g:Nat):r9 ms sames g=jl sames.L Ą Ŏ g:=by
 ext r9 rZ jl;generalize List.range sames.L=M;induction M with
 |nil=>rfl
 |cons b M j=>
  let e:=HH hc Ī;delta tX at e;rw[a8,g7,<-j];by_cases h:yK g b=true
  .rw[Br h,a8,g7,af (by rw[<-yV];exact h),e]
  .rw[Bs h,ag (by rw[<-yV];exact h),ZX]
def OJ(rows m:bq):(ng rows m).flatten=eX rows m:=by
 rfl
def oJ(ms:aG)(rows:bq):LN:=(jA ms rows.flatten).M (·.1)
def OK(ms:aG)(rows:bq):(eX rows ō).M (·.1)=rows.flatten:=WB rows ō (WC ms rows) (NS ms rows)
def anK(h:p∈jA ms flat):p.2=(flat.count p.1:Int)-tX ms p.1:=by
 delta jA at h;let(q,j,e):=Ii.mp h;delta pC at e;split at e
 .let e:=(aO e).symm;subst e;let m:=z5 (GI flat) j;let h2:=VW flat q.1;symm
 .cases e
def anL(hc:∀m∈ms,0<=m.copies)(h:s∉(jA ms flat).M (·.1)):(flat.count s:Int)<=tX ms s:=by
 by_cases hs:flat.Y s=true
 .let j:=VX flat s;rw[hs] at j;let(n,F):=Ij.mp j;let h2:=VW flat s;rw[F] at h2;let h2:=h2;let J:(s,n)∈gH flat:=by
   delta b7 at F;cases e:(gH flat).find? λp=>decide (p.1=s) with
   |none=>symm
   |some q=>
    grind
  apply Int.not_lt.mp λz=>h ?_;apply b9.mpr ⟨(s,(n:Int)-tX ms s),?_,Á⟩;ext jA;apply Ii.mpr ⟨(s,n),J,?_⟩;ext pC;symm
 .let:flat.count s=0:=List.count_eq_zero.mpr (λz=>hs Å);rw[this,HH hc];ext aZ;symm
def OL(hc:∀m∈ms,0<=m.copies)(rows:bq):pH ms rows=fC (a7 ms).L Èc Ŏ û ż:=by
 let z:DB ms rows=(oJ ms rows).M λs=>(s,(List.range (2^(a7 ms).L)).M (bj Ŏ û s)):=by
  ext DB oA oJ;rw[cZ];apply lh;intro p F;congr 1;ext GU;apply pQ λg _=>?_;rw[V2,anH,anK F,HH hc];ext bj;rw[Yt,OK]
 ext pH;rw[z];ext fC;congr 1;let j:(List.range (2^(a7 ms).L)).M (r9 ms Ĭ)=(List.range (2^(a7 ms).L)).M (jl (a7 ms).L Èc Ŏ):=pQ λg _=>anJ hc _ g;rw[j,anI];rfl
end HD
namespace HD
open PySem L2 JM
def Yu{L:Flags.Locker}{ms:aG}(hk:L.kinds=ms.M bX){i:Nat}(hi:i<ms.L):L.kinds[i]? =Α (bX Ϛ):=by
 symm
def Yv{L:Flags.Locker}{ms:aG}(hk:L.kinds=ms.M bX){i:Nat}(hi:i<ms.L):(L.kinds[i]?).M Flags.Kind.role=Α (qG Ϛ):=by
 rw[Yu hk hi];rfl
def OM{L:Flags.Locker}{ms:aG}(hk:L.kinds=ms.M bX):L.sameKinds=a7 ms:=by
 ext Flags.Locker.sameKinds a7;let z:L.kinds.L=ms.L:=by rw[hk,az]
 rw[z];apply Z2;intro i hi;let hi:i<ms.L:=À hi
 rw[Yv hk hi];ext qG;by_cases m:(ms.D i fq).role=0
 .rw[af m,m];rfl
 .rw[ag m];by_cases j:(ms.D i fq).role=1
  .rw[af j,j];rfl
  .rw[ag j,fZ j]
def anN{L:Flags.Locker}{ms:aG}(hk:L.kinds=ms.M bX){s:Nat}(hs:s∈a7 ms):L.points s=(lO ms s).toNat:=by
 delta a7 at hs;let(j,h2):=jF.mp hs;simp at j;let h2:(ms.D s fq).role=1:=À h2
 ext Flags.Locker.points;rw[Yv hk j];ext qG;rw[ag Ô,af h2];rfl
theorem anO(P:Nat->Bool)(l:LN):l.J P=((List.range l.L).J λb=>P (l.D b 0)).M λb=>l.D b 0:=by
 induction l with
 |nil=>exact Á
 |cons x l j=>
  let j:=j;rw[df,Ed,xJ,xJ,zo];let e:((λb=>P ((x::l).D b 0))∘Nat.succ)=λb=>P (l.D b 0):=rfl;rw[e];by_cases h:P x=true
  .rw[af h,af (show P ((x::l).D 0 0)=true from h),a8,cZ,j];rfl
  .rw[ag h,ag (show ¬P ((x::l).D 0 0)=true from h),cZ,j];rfl
def Yw(ms:aG)(sames row:LN)(i:Nat):tW ms sames row i=vE (AE ms sames row i) sames.L:=rfl
def anP{L:Flags.Locker}{ms:aG}(hk:L.kinds=ms.M bX)(mo:xn ms)(row:LN)(i:Nat):
  di Ĭ (row.D i 0,tW ms Ĭ row i)=⟨row.D i 0,L.sameKinds.J λ(f:Nat)=>decide (L.points f<=i)&&row.D (L.points f-1) 0==row.D i 0⟩:=by
 ext di;dsimp only;congr 1;rw[OM hk,anO];congr 1;ext pG;apply Z2;intro b j;let j:b<(a7 ms).L:=À j
 let m:(a7 ms).D b 0∈a7 ms:=by
  rw[ip,c7 j];exact Ei j
 rw[yV,Yw,X9,eN j,lW,anN hk m];let F:=mo.pos _ m;ext AE;let z:decide (lO ms ((a7 ms).D b 0)<=(i:Int))=decide ((lO ms ((a7 ms).D b 0)).toNat<=i):=by
  rw[Z0];simp
 rw[z,Bool.beq_eq_decide_eq]
theorem Yx{L:Flags.Locker}{ms:aG}(hk:L.kinds=ms.M bX)(mo:xn ms):∀rows:bq,L.spots rows=(eX rows ō).M (di Ĭ):=by
 intro rows;induction rows with
 |nil=>exact Á
 |cons r rows j=>
  let j:=j;delta Flags.Locker.spots eX fX at j⊢;rw[Em,j,a8,Ea,Em,bZ];congr 1;ext qK;let e:r=(List.range r.L).M λi=>r.D i 0:=by
   let:=xj (l:=r) (g:=λx=>x) (d:=0);rw[List.map_id'] at this;exact this.symm
  let m:r.zip ((List.range r.L).M (tW ms Ĭ r))=(List.range r.L).M λi=>(r.D i 0,tW ms Ĭ r i):=by
   apply xI;intro i;by_cases hi:i<r.L
   .rw[bU,QB hi,II.mpr (show r[i]? =Α (r.D i 0,tW ms Ĭ r i).1/\((List.range r.L).M (tW ms Ĭ r))[i]? =Α (r.D i 0,tW ms Ĭ r i).2 from Áp)]
    .rfl
    .rw[ip,c7 hi];rfl
    .rw[bU,QB hi];rfl
   .rw[zl (by rw[List.length_zip];grind),zl (by rw[az,gq];lia)]
  rw[m,cZ];apply lh;intro i _;exact(anP hk mo r i).symm
def Yy(ms:aG):(a7 ms).Nodup:=List.Nodup.sublist aso Z1
structure xw(ms:aG):Prop where
 mo:xn ms
 cp:∀m∈ms,0<=m.copies
def Ba(ms:aG)(rows:bq):Prop:=∀r∈rows,∀s∈r,jT ms s=true
def Yz(h:jT ms s=true):s∉a7 ms:=λz=>by
 delta a7 at z;let z:(ms.D s fq).role=1:=by simpa using (jF.mp z).2
 let h:(ms.D s fq).role=0:=by delta jT at h;simpa using h
 lia
def YA(ms:aG)(rows:bq):∀p∈eX rows ō,p.2<2^(a7 ms).L:=λp j=>by
 delta eX fX at j;let(q,F,j):=lr.mp j;let z:=(D7 F).2;let(r,_,e):=b9.mp z;let h2:=(D7 j).2;rw[<-e] at h2;delta qK at h2;let(i,_,m):=b9.mp h2;rw[<-m,Yw];exact OB _ _
def YB(g:xw ms)(rows:bq):yW Ŏ û ż:=λs hs=>by
 rw[Yt,OK,<-HH g.cp];exact anL g.cp hs
def anQ(g:xw ms)(sg:Ba ms rows)(h:∀q,q<2^(a7 ms).L->0<=dq (a7 ms).L Èc Ŏ û ż q):oH Ĭ (jD ms) û ż:=by
 let O:∀b,b<(a7 ms).L->cA Ĭ b∈a7 ms:=λb j=>by
  symm
 let m:∀s∈rows.flatten,jT ms s=true:=λs hs=>by
  let(r,hr,hs):=List.mem_flatten.mp hs;exact sg r hr s hs
 apply(NU _ _,YB g rows,YA ms rows,λp F b j e=>?_,λb j hz=>?_,h)
 .let z:p.1∈rows.flatten:=by rw[<-OK ms rows];exact b9.mpr ⟨p,F,Á⟩
  exact Yz (m _ z) (e▸ O b j)
 .delta oJ at hz;let(q,J,e):=b9.mp hz;exact Yz (m _ (WD J)) Å
def HI{L:Flags.Locker}{ms:aG}(hk:L.kinds=ms.M bX)(g:xw ms)(rows:bq):L.enough L.allCopies (L.spots rows)=true↔ ∀q,q<2^(a7 ms).L->0<=dq (a7 ms).L Èc Ŏ û ż q:=by
 rw[Yx hk g.mo,show L.allCopies=jD ms by ext Flags.Locker.allCopies jD;rw[hk,cZ];rfl];exact Yd (OM hk) (Yy ms) _ _ (YA ms rows) (NU _ _) (YB g rows)
def YC(g:xw ms)(rows:bq):(pH ms rows).2.any (λz=>decide (z<0))=false↔ ∀q,q<2^(a7 ms).L->0<=dq (a7 ms).L Èc Ŏ û ż q:=by
 rw[OL g.cp];let:=DN (dq (a7 ms).L Èc Ŏ û ż) (2^(a7 ms).L);rw[<-this];ext oB fC;simp
def ON{L:Flags.Locker}{ms:aG}(hk:L.kinds=ms.M bX)(g:xw ms){rows:bq}(sg:Ba ms rows):oG ms rows=Α (if L.canShowAll rows=true then some (L.displayed rows) else none):=by
 let O:(∀q,q<2^(a7 ms).L->0<=dq (a7 ms).L Èc Ŏ û ż q)->∃x,m9 Ĭ Ær Ãs=Α x/\x.1.M List.length=rows.M List.length/\L.displayed rows=x.1:=λh=>by
  let c:=anQ g sg h;rw[<-OJ] at c;let(x,j,m):=anF (L:=L) (OM hk) (Yy ms) Ãs (jD ms) c;rw[OJ,<-OL g.cp] at j;rw[OJ,<-Yx hk g.mo] at m;let F:x.1.M List.length=rows.M List.length:=by
   rw[Xj _ _ _ _ j];ext ng fX;rw[cZ];apply xI;intro i;rw[bU,bU,ZZ,bU];cases er:rows[i]? with
   |none=>symm
   |some r=>
    rw[II.mpr (show rows[i]? =Α (r,r).1/\rows[i]? =Α (r,r).2 from⟨er,er⟩)];ext qK;simp
  apply(x,j,F,?_);let ee:=(HI hk g rows).mpr h;ext Flags.Locker.displayed Flags.Locker.display;rw[af ee,show L.allCopies=jD ms by ext Flags.Locker.allCopies jD;rw[hk,cZ];rfl,m,<-F];exact anG x.1
 let J:L.canShowAll rows=L.enough L.allCopies (L.spots rows):=rfl;ext oG;by_cases F:jA ms rows.flatten=[]
 .rw[af F];let U:oJ ms rows=[]:=by ext oJ;rw[F];rfl
  let h:∀q,q<2^(a7 ms).L->0<=dq (a7 ms).L Èc Ŏ û ż q:=λq _=>by
   rw[U];ext dq i0 jl;rw[mr,List.sum_nil,Int.sub_zero];generalize List.range (a7 ms).L=M;induction M with
   |nil=>simp
   |cons b M Y=>
    rw[a8,g7];let:(0:Int)<=if q.testBit b=true then aZ (jD ms) (cA Ĭ b) else 0:=by
     ext aZ;lia
    omega
  let(x,j,_,m):=O h;let en:m9 Ĭ Ær Ãs=Α ((ng rows ō).M (λp=>p.M (·.1)),pH ms rows):=by
   let h1:∀(l:cu)(st:ik),st.1=[]->oE Ĭ st l=Α (l.M (·.1),st):=by
    intro l;induction l with
    |nil=>intro st _;rfl
    |cons p l Y=>
     intro st Z;ext oE oC;rw[Z,show b7 ([]:List (Nat×LI)) p.1=Β from rfl];grind
   let h2:∀(ps:List cu)(st:ik),st.1=[]->m9 Ĭ st ps=Α (ps.M (λp=>p.M (·.1)),st):=by
    intro ps;induction ps with
    |nil=>intro st _;rfl
    |cons p ps Y=>
     intro st Z;ext m9;grind
   apply h2 _ _ ?_;rw[OL g.cp,U];rfl
  let ex:x.1=rows:=by
   rw[en] at j;rw[<-aO j];ext ng fX;rw[cZ];apply xI;intro i;rw[bU,ZZ,bU];cases er:rows[i]? with
   |none=>symm
   |some r=>
    rw[II.mpr (show rows[i]? =Α (r,r).1/\rows[i]? =Α (r,r).2 from⟨er,er⟩)];show some ((r.zip (qK ms Ĭ r)).M (·.1))=Α r;rw[List.map_fst_zip (by ext qK;rw[az,gq];exact bw _)]
  rw[J,af ((HI hk g rows).mpr h),m,ex]
 .rw[ag F];by_cases W:(pH ms rows).2.any (λz=>decide (z<0))=true
  .rw[af W,J,ag (λz=>?_)];let:=(YC g rows).mpr ((HI hk g rows).mp z);symm
  .rw[ag W];let h:=(YC g rows).mp Å;let(x,j,_,m):=O h;rw[j,J,af ((HI hk g rows).mpr h),m];rfl
structure sr(ms:aG):Prop where
 kv:∀m∈ms,Kv m
 pw:ms.Pairwise λp x=>iS p x=true
 nm:(ms.J isSign).Pairwise λa b=>a.name≠b.name
def OO(m:bf t)(h:fV t=Α x):sr x.2:=by
 delta fV at h;split at h
 .rename_i l r e;cases e1:fj (codes "locker") l with
  |none=>rw[e1,C2] at h;cases h
  |some n=>
   cases e2:gR r with
   |none=>rw[e2,C0] at h;cases h
   |some ms=>
    rw[e1,e2] at h;let h:(if (oh ms&&pj ms)=true then some (n,ms) else none)=Α x:=h;split at h
    .rename_i j;let:=aO h;subst this;let hr:=λw z=>by
      delta jP at e;split at e
      .let e:=aO e;let:w∈(aJ 10 t).dropLast:=by rw[e];exact aQ _ z
       exact qv 10 m w (Bp _ this)
      .symm
     let kv:=MT hr e2;let(j,hd):=vO.mp j;apply(kv,?_,?_)
     .delta oh at j;split at j
      .symm
      .exact(MU kv).mp j
     .delta pj at hd;let(hd,_):=vO.mp hd;simp at hd;let:=MV.mp hd;rw[Iz] at this;apply this.imp λ{a b}F e=>?_;rw[MW,eN e] at F;symm
    .symm
 .cases h
theorem YD:∀{l:LI}{lo hi:Int},l.Pairwise (· < ·)->(∀x∈l,lo<=x/\x<=hi)->l≠[]->(l.L:Int)<=hi-lo+1
 |[],_,_,_,_,h=>absurd rfl h
 |[x],lo,hi,_,h,_=>by
  let:=h x Ä;simp only[List.length_singleton];lia
 |x::y::l,lo,hi,pw,h,_=>by
  let(j,h2):=Bm.mp pw;let m:=h x Ä;let:=YD (l:=y::l) (lo:=x+1) (hi:=hi) h2 (λz hz=>⟨by let:=j z hz;assumption,(h z (aQ _ hz)).2⟩) Ä;rw[df];lia
def anR{ms:aG}(f:sr ms):(a7 ms).L<=4:=by
 by_cases J:a7 ms=[]
 .rw[J];decide
 let O:∀i∈a7 ms,i<ms.L/\(ms.D i fq).role=1:=λi hi=>by
  delta a7 at hi;let(h1,h2):=jF.mp hi;exact(À h1,À h2)
 let U:∀i,i<ms.L->ms[i]? =Α Ϛ:=λi hi=>by
  rw[ip,c7 hi];rfl
 let F:=λi hi=>bY (U i hi);let br:(a7 ms).Pairwise (· < ·):=by
  ext a7;exact List.Pairwise.sublist aso Qt
 let hw:((a7 ms).M (lO ms)).Pairwise (· < ·):=by
  rw[Iz];apply List.Pairwise.imp_of_mem (λ{i j}hi hj Z=>?_) br;let(m,W):=O i hi;let(Y,j2):=O j hj;let hf:=(pw_place.mp f.pw) j _ (U j Y) Ϛ (by
   apply bY (i:=i) ?_;rw[Zu Z,U i m])
  let:=(xg (f.kv _ (F i m)) (f.kv _ (F j Y)) j2).mp hf;ext lO;rcases this with h|h
  .lia
  .exact h.2
 let:=YD (lo:=1) (hi:=4) hw (λz hz=>by
  let(i,hi,rfl):=b9.mp hz;let(m,W):=O i hi;exact(f.kv _ (F i m)).C6 W) (À J)
 rw[az] at this;lia
def OQ(f:sr ms):xw ms:=by
 apply(⟨by let:=anR f;lia,λs hs=>?_⟩,λm j=>by let:=(f.kv m j).cp;lia);delta a7 at hs;let(z,h2):=jF.mp hs;simp at z;simp at h2;let j:ms.D s fq∈ms:=by
  symm
 exact((f.kv _ j).C6 h2).1
def anS(j:bf t)(h:fV t=Α x):Ht x.2:=by
 let f:=OO j h;let g:=OQ f;apply(λk hk=>(f.kv k hk).lk,g.mo,λrows sg=>?_);rw[ON (L:=⟨[],x.2.M bX⟩) rfl g sg];simp
def YE(x:Str)(s:String)(F:bf Ũ)(hs:(codes x).M B=Flags.ascii s)(h:bf l):Flags.wordName (Flags.ascii s) Ľ=(fj Ũ l).M λn=>n.M B:=by
 ext Flags.wordName fj;rw[show Flags.cutAt 32 Ľ=(aJ 32 l).M ê from yp 32 Ù l h];let j:=qv 32 (l:=l) h;generalize aJ 32 l=W at j
 match W,j with
 |[],_=>rfl
 |[a],_=>rfl
 |[a,b],j=>
  let m:a.M B=Flags.ascii s↔a=codes x:=by
   rw[<-hs];exact(λe=>wM (j a Ä) F e,λe=>by rw[e])
  show(if a.M B=Flags.ascii s/\Flags.isName ϝ=true then some ϝ else none)=Option.map _ (if a=codes x/\iQ b=true then some b else none);rw[Gn (j b Ä)];by_cases c:a=codes x/\iQ b=true
  .rw[af c,af ⟨m.mpr c.1,c.2⟩];rfl
  .rw[ag c,ag (λz:_/\_=>c ⟨m.mp z.1,z.2⟩)];rfl
 |a::b::c::r,_=>rfl
def wF(l:LI):Bool:=!(aJ 32 l).Y []
def wG(l:LI):Bool:=!((aJ 32 l).drop 1).Y []
def YF(x:Int)(r:LI):wF (x::r)=(decide (x≠32)&&wG r):=by
 ext wF wG;show(!(if x=32 then []::aJ 32 r else match aJ 32 r with|[]=>[[x]]|w::l=>(x::w)::l).Y [])=_;by_cases h:x=32
 .rw[af h,fZ (λz=>z h),lU];simp
 .rw[ag h,eN h,lW];cases e:aJ 32 r with
  |nil=>exact absurd e (l8 32 r)
  |cons w l=>
   simp
def anT(y:Int)(r:LI):wG (y::r)=if y=32 then wF r else wG r:=by
 ext wF wG;show(!((if y=32 then []::aJ 32 r else match aJ 32 r with|[]=>[[y]]|w::l=>(y::w)::l).drop 1).Y [])=_;by_cases h:y=32
 .rw[af h,af h];rfl
 .rw[ag h,ag h];cases e:aJ 32 r with
  |nil=>exact absurd e (l8 32 r)
  |cons w l=>rfl
def kB(l:List UInt8):Bool:=l.getLast? !=Α 32&&Flags.noTwoBlanks l
def DO(h:0<=x/\x<=255):(B x==32)=decide (x=32):=by
 let:=C4 (p:=λx=>decide ((B x==32)=decide (x=32))) È h;symm
def YG(x y:Int)(j:0<=x/\x<=255)(m:0<=y/\y<=255)(r:List UInt8):kB (B x::B y::r)=(!(decide (x=32)&&decide (y=32))&&kB (B y::r)):=by
 ext kB;rw[show Flags.noTwoBlanks (B x::B y::r)=(!(B x==32&&B y==32)&&Flags.noTwoBlanks (B y::r)) from rfl,DO j,DO m,List.getLast?_cons_cons];cases (decide (x=32)&&decide (y=32)) <;> cases ((B y::r).getLast? !=Α 32) <;> simp
def YH(x:Int)(j:0<=x/\x<=255):kB [B x]=decide (x≠32):=by
 ext kB;rw[show Flags.noTwoBlanks [B x]=true from rfl,QC];let:=DO j;show(some (B x)!=Α 32)=_;by_cases h:x=32
 .rw[h];decide
 .rw[eN h];rw[fZ h] at this;let h2:B x≠32:=by simpa using this
  simpa using h2
theorem OR:∀(n:Nat)(r:LI)(x:Int),r.L<=n->bf (x::r)->x≠32->kB ((x::r).M B)=wG r
 |_,[],x,_,h,hx=>by
  rw[a8,mr,YH x (h x Ä),eN hx];rfl
 |0,y::r,x,hl,_,_=>absurd hl Ä
 |n+1,y::r,x,hl,h,hx=>by
  let m:=h x Ä;let O:=h y Ä;simp at hl;rw[a8,a8,YG x y m O,fZ hx,lU,anT];by_cases j:y=32
  .rw[af j];cases r with
   |nil=>
    rw[mr,YH y O,fZ (λz=>z j)];rfl
   |cons z r=>
    let F:=h z Ä;rw[a8,YG y z O F,eN j,lW,YF];by_cases hz:z=32
    .rw[eN hz,fZ (λw=>w hz)];rfl
    .rw[fZ hz,eN hz,lW];exact OR n r z (by simp only[df] at hl;lia) (λw J=>h w (aQ _ (aQ _ J))) hz
  .rw[ag j];exact OR n r y hl (λw J=>h w (aQ _ J)) j
def anW{l:LI}(h:bf l):Flags.isMeaning Ľ=uf l:=by
 let Z:uf l=(!(decide (l.L>64)||(aJ 32 l).Y [])&&l.all λb=>decide (32<=b)&&decide (b<=126)):=rfl;let ew:(aJ 32 l).Y []=!wF l:=by ext wF;rw[Ej]
 rw[Z,ew];ext Flags.isMeaning;rw[az,sD];let Y:l.all ((λ(c:UInt8)=>decide (32<=c.toNat)&&decide (c.toNat<=126))∘B)=l.all λb=>decide (32<=b)&&decide (b<=126):=KB h λx m=>by
  let:=C4 (p:=λx=>decide ((decide (32<=(B x).toNat)&&decide ((B x).toNat<=126))=(decide (32<=x)&&decide (x<=126)))) È m;simpa using this
 rw[Y];cases l with
 |nil=>rfl
 |cons x r=>
  rw[YF];let hk:(((x::r).M B).head? !=Α 32)=decide (x≠32):=by
   let:=DO (h x Ä);show(some (B x)!=Α 32)=_;by_cases m:x=32
   .rw[m];decide
   .rw[eN m];rw[fZ m] at this;let h2:B x≠32:=by simpa using this
    simpa using h2
  let U:decide (1<=(x::r).L)=true:=eN Ä;let W:decide ((x::r).L>64)=!decide ((x::r).L<=64):=by
   generalize (x::r).L=n;by_cases z:n<=64
   .rw[eN z,fZ Å];rfl
   .rw[fZ z,eN Å];rfl
  rw[hk,U,W,lW];let j:decide (x≠32)=true->kB ((x::r).M B)=wG r:=λm=>OR r.L r x (bw _) h (sE m);delta kB at j;generalize (((x::r).M B).getLast? !=Α 32)=F at j⊢;generalize Flags.noTwoBlanks ((x::r).M B)=p2 at j⊢;generalize (x::r).all (λb=>decide (32<=b)&&decide (b<=126))=J;generalize decide ((x::r).L<=64)=O;generalize wG r=p5 at j⊢;generalize decide (x≠32)=p6 at j⊢;cases p6
  .cases F <;> cases p2 <;> cases J <;> cases O <;> cases p5 <;> rfl
  .let j:=j rfl;subst j;cases F <;> cases p2 <;> cases J <;> cases O <;> rfl
def anY(h:iR line=Α m)(j:m.role=0):iQ m.name=true:=by
 delta iR pd at h;generalize aJ 32 line=ws at h;split at h
 .cases h
 .rename_i r F;by_cases z:ws.L=(if r=2 then 4 else 5)
  .rw[af z] at h;cases e1:md r Ŕ with
   |none=>rw[e1,Gb] at h;cases h
   |some n=>
    cases e2:rT r Ŕ with
    |none=>rw[e2,Gc] at h;cases h
    |some W=>
     cases e3:iH (ws.D (ws.L-3) []) 8 with
     |none=>rw[e3,ME] at h;cases h
     |some c=>
      cases e4:bC ă (ws.D (ws.L-2) []) with
      |none=>rw[e4,Gd] at h;cases h
      |some sh=>
       cases e5:iz (ws.D (ws.L-1) []) with
       |none=>rw[e5,Ge] at h;cases h
       |some lk=>
        rw[e1,e2,e3,e4,e5] at h;let:=aO h;subst this;let j:=j;delta md at e1;grind
  .symm
theorem anZ{r:dm}:∀{ms:aG},gR r=Α ms->∀m∈ms,m.role=0->iQ m.name=true:=by
 induction r with
 |nil=>
  intro ms h m j;let:=aO h;subst this;exact absurd j Ä
 |cons l r z=>
  intro ms h m j;delta gR at h;cases e1:iR l with
  |none=>rw[e1] at h;cases gR r <;> cases h
  |some k=>
   rw[e1] at h;cases e2:gR r with
   |none=>rw[e2] at h;cases h
   |some ks=>
    rw[e2] at h;let:=aO h;subst this;rcases aV.mp j with rfl|j
    .exact anY e1
    .exact z e2 m j
def an0{t:LI}{x:LI×aG}(h:fV t=Α x):∀m∈x.2,m.role=0->iQ m.name=true:=by
 delta fV at h;split at h
 .rename_i l r e;cases e1:fj (codes "locker") l with
  |none=>rw[e1,C2] at h;cases h
  |some n=>
   cases e2:gR r with
   |none=>rw[e2,C0] at h;cases h
   |some ms=>
    rw[e1,e2] at h;let h:(if (oh ms&&pj ms)=true then some (n,ms) else none)=Α x:=h;split at h
    .let:=aO h;subst this;exact anZ e2
    .symm
 .cases h
def pU(name:LI)(m:hJ):Bool:=decide (m.role=0)&&decide (m.name=name)
def an1{L:Flags.Locker}{ms:aG}(hk:L.kinds=ms.M bX)(f:sr ms){name:LI}(O:bf name):L.find Ãt=ms.findIdx? (pU name):=by
 ext Flags.Locker.find;rw[hk,List.findIdx?_map];let:∀l:aG,(∀m∈l,Kv m)->l.findIdx? ((λ(k:Flags.Kind)=>k.role== .sign Ãt)∘bX)=l.findIdx? (pU name):=by
  intro l;induction l with
  |nil=>intro _;rfl
  |cons m l W=>
   intro kv;let km:=kv m Ä;let e:((λ(k:Flags.Kind)=>k.role== .sign Ãt)∘bX) m=pU name m:=by
    show((bX m).role== .sign Ãt)=_;ext pU;by_cases j:m.role=0
    .rw[yD j,eN j,lW];by_cases F:m.name=name
     .rw[F,eN rfl];simp
     .rw[fZ F];let:m.name.M B≠name.M B:=λz=>F (wM km.nm O z);simpa using this
    .rw[fZ j,lU];by_cases J:m.role=1
     .rw[Ax J];rfl
     .let:=km.role;rw[Gs km Ô];rfl
   rw[ZR,ZR,e,W λx U=>kv x (aQ _ U)]
 exact this ms f.kv
theorem an2(name:LI)(l:List (LI×Nat)):∀(acc:Option Nat),(∀p∈l,p.1≠name)->l.foldl (λacc p=>if p.1=name then some p.2 else acc) acc=acc:=by
 induction l with
 |nil=>exact @λacc _=>Á
 |cons p l m=>
  intro acc h;rw[IJ,ag (h p Ä)];exact m acc λq j=>h q (aQ _ j)
theorem an3(name:LI)(k:Nat)(l:List (LI×Nat)):∀(acc:Option Nat),(∀p∈l,p.1=name->p.2=k)->((∃p∈l,p.1=name)\/acc=Α k)->l.foldl (λacc p=>if p.1=name then some p.2 else acc) acc=Α k:=by
 induction l with
 |nil=>exact @λacc _ h=>h.elim (λ⟨p,j,_⟩=>absurd j Ä) id
 |cons p l F=>
  intro acc z h2;rw[IJ];apply F _ (λq m=>z q (aQ _ m)) ?_;by_cases j:p.1=name
  .rw[af j,z p Ä j];exact Or.inr Á
  .rw[ag j];rcases h2 with ⟨q,m,e⟩|h2
   .rcases aV.mp m with rfl|m
    .exact absurd e j
    .exact Or.inl ⟨q,m,e⟩
   .exact Or.inr h2
def YI(f:sr ms)(name:LI):jU ms name=ms.findIdx? (pU name):=by
 let Y:∀i,i<ms.L->ms[i]? =Α Ϛ:=λi hi=>by
  rw[ip,c7 hi];rfl
 let O:∀p,p∈ug ms ms.L↔ ∃j,j<ms.L/\(ms.D j fq).role=0/\p=((ms.D j fq).name,j):=λp=>by
  ext ug jT;simp only[b9,jF,uG,nD];exact(λ⟨j,⟨m,h2⟩,e⟩=>⟨j,m,h2,e.symm⟩,λ⟨j,m,h2,e⟩=>⟨j,⟨m,h2⟩,e.symm⟩)
 let hu:∀i j,i<j->j<ms.L->pU name Ϛ=true->pU name (ms.D j fq)=true->False:=λi j GQ F m h2=>by
  let J:=asa.mp f.nm;let:=(pw_place.mp J) j _ (Y j F) Ϛ (by
   apply bY (i:=i) ?_;rw[Zu GQ,Y i Ô])
  delta pU at m h2;let(a1,a2):=vO.mp m;let(b1,b2):=vO.mp h2;exact this a1 b1 ((sE a2).R (sE b2).symm)
 ext jU;cases e:ms.findIdx? (pU name) with
 |none=>
  rw[arU] at e;apply an2 name _ none λp J z=>?_;let(j,F,U,rfl):=(O p).mp J;let:=e _ (bY (Y j F));delta pU at this;rw[eN U,eN z] at this;cases this
 |some k=>
  let(hk,m,_):=Iy.mp e;let W:pU name (ms.D k fq)=true:=by
   rw[ip,c7 hk];exact m
  let xb:=vO.mp W;apply an3 name k _ none (λp J z=>?_) (Or.inl ⟨((ms.D k fq).name,k),(O _).mpr ⟨k,hk,sE xb.1,Á⟩,sE xb.2⟩);let(j,F,U,rfl):=(O p).mp J;let Z:pU name (ms.D j fq)=true:=by
   ext pU;rw[eN U,eN z];rfl
  rcases Nat.lt_trichotomy j k with h|h|h
  .exact(hu j k h hk Z W).elim
  .exact h
  .exact(hu k j h F W Z).elim
def an4{L:Flags.Locker}{ms:aG}(hk:L.kinds=ms.M bX)(f:sr ms){name:LI}(j:bf name):L.find Ãt=jU ms name:=(an1 hk f j).R (YI f name).symm
def an5{ms:aG}(f:sr ms)(z:∀m∈ms,m.role=0->iQ m.name=true){name:LI}{k:Nat}(h:jU ms name=Α k):iQ name=true:=by
 rw[YI f] at h;let(hk,j,_):=Iy.mp h;let j:=vO.mp j;let:=z _ (Ei hk) (sE j.1);rw[sE j.2] at this;exact this
theorem an6{l:LI}:bf l->Flags.partAt 32 Ľ=if l.Y 32=true then some ((l.take (l.idxOf 32)).M B,(l.drop (l.idxOf 32+1)).M B) else none:=by
 induction l with
 |nil=>exact @λ_=>Á
 |cons x r m=>
  intro h;let m:=m λw O=>h w (aQ _ O);let j:=DO (h x Ä);rw[a8];ext Flags.partAt;rw[List.idxOf_cons,Be];by_cases e:x=32
  .rw[af (by rw[eN e] at j;simpa using j),af (by rw[e];rfl)];subst e;rfl
  .let J:¬B x=32:=by rw[fZ e] at j;simpa using j
   let z:(x==32)=false:=À e
   let F:((32:Int)==x)=false:=by simpa using dj e
   rw[ag J,m,z,F,Qj];by_cases hc:r.Y 32=true
   .rw[af hc,af hc];rfl
   .rw[ag hc,ag hc];rfl
theorem an7{L:Flags.Locker}{ms:aG}(hk:L.kinds=ms.M bX)(f:sr ms){ps:dm}:(∀p∈ps,bf p)->L.rowIn (ps.M ê)=if (ps.M (jU ms)).Y none=true then none else some ((ps.M (jU ms)).M λo=>o.D 0):=by
 induction ps with
 |nil=>exact @λ_=>Á
 |cons p ps j=>
  intro h;let j:=j λq z=>h q (aQ _ z);delta Flags.Locker.rowIn at j⊢;rw[a8,IA,an4 hk f (h p Ä),j,a8,Be];cases e:jU ms p with
  |none=>rfl
  |some k=>
   let m:((none:Option Nat)==Α k)=false:=rfl;rw[m,Qj];by_cases hc:(ps.M (jU ms)).Y none=true
   .rw[af hc,af hc];rfl
   .rw[ag hc,ag hc];rfl
def entry_eq{L:Flags.Locker}{ms:aG}(hk:L.kinds=ms.M bX)(f:sr ms)(hn:∀m∈ms,m.role=0->iQ m.name=true){w:LI}(W:bf w):
  ((Flags.entryIn Į).bind λx=>(L.rowIn x.1).M λr=>(r,x.2))=(iJ ms w).M λe=>(e.1,e.2.M B):=by
 ext Flags.entryIn iJ;rw[an6 W];by_cases hc:w.Y 32=true
 .rw[af hc,af hc];let U:bf (w.take (w.idxOf 32)):=λx Y=>W x (IB Y);let YJ:bf (w.drop (w.idxOf 32+1)):=λx Y=>W x (Qs Y);generalize w.take (w.idxOf 32)=J at U;generalize w.drop (w.idxOf 32+1)=p2 at YJ;rw[Er];dsimp only;ext Flags.namesIn;rw[show Flags.cutAt 46 (J.M B)=(aJ 46 J).M ê from yp 46 Ù J U,anW YJ];let Z:=qv 46 (l:=J) U;let F:=an7 hk f Z;ext xo pK;rw[az];generalize aJ 46 J=ps at Z F;dsimp only;rw[az];by_cases cE:ps.L<=8
  .by_cases j:(ps.M (jU ms)).Y none=true
   .rw[af (Or.inr j)];rw[af j] at F;dsimp only;split
    .rw[Er];split
     .rw[Er,F];rfl
     .rfl
    .rfl
   .let jx:(ps.M ê).all Flags.isName=true:=by
     rw[sD,lV];intro p hp;show Flags.isName Ág=true;rw[Gn (Z p hp)];cases e:jU ms p with
     |none=>exact absurd (by rw[En];exact b9.mpr ⟨p,hp,e⟩) j
     |some k=>exact an5 f hn e
    rw[af (show ps.L<=Flags.LONG/\(ps.M ê).all Flags.isName=true from⟨cE,jx⟩),ag (λz:ps.L>8\/(ps.M (jU ms)).Y none=true=>z.elim (λy=>by lia) j),Er];rw[ag j] at F;dsimp only;by_cases O:uf p2=true
    .rw[af O,af O,Er,F];rfl
    .rw[ag O,ag O];rfl
  .rw[ag (λz:ps.L<=Flags.LONG/\(ps.M ê).all Flags.isName=true=>cE z.1),af (show ps.L>8\/(ps.M (jU ms)).Y none=true from Or.inl Å)];rfl
 .rw[ag hc,ag hc];rfl
theorem YK:∀r s:LN,r.L=s.L->HT.lexLt (nv r) (nv s)=Flags.before r s
 |[],[],_=>rfl
 |[],_::_,h=>by simp at h
 |_::_,[],h=>by simp at h
 |x::r,y::s,h=>by
  let j:=YK r s (À h);show HT.lexLt (((x:Nat):Int)::nv r) (((y:Nat):Int)::nv s)=(decide (x<y)||(x==y&&Flags.before r s));rw[HT.uU,j];by_cases e:x=y
  .subst e;rw[af rfl,fZ Å];simp
  .rw[ag Ô,show(x==y)=false by simpa using e,lU,ZP,Z0];symm
def an8(r s:LN):vz r s=Flags.rowBefore r s:=by
 ext vz Flags.rowBefore;by_cases e:r.L=s.L
 .rw[af Å,YK r s e,fZ Å,show(r.L==s.L)=true by simp_all];simp
 .grind
def an9{L:Flags.Locker}{ms:aG}(hk:L.kinds=ms.M bX)(g:xw ms){row:LN}(sg:∀s∈row,jT ms s=true):kZ ms row=L.canShow row:=by
 ext kZ;rw[ON hk g (rows:=[row]) (λr hr=>by
  obtain rfl:r=row:=À hr
  exact sg),show L.canShowAll [row]=L.canShow row from rfl]
 cases L.canShow row <;> rfl
abbrev nu:=LN×LI
def oK(e:nu):Flags.Entry:=⟨e.1,e.2.M B⟩
def qQ(j:List nu)(e:nu):Bool:=!(j.getLast?.any λp=>!vz p.1 e.1)
def ur(ms:aG):List nu->dm->Option (List nu)
 |past,[]=>some past
 |past,w::r=>match iJ ms w with
  |none=>none
  |some e=>if (kZ ms e.1&&(qQ past e&&decide (past.L<2048)))=true then ur ms (past++[e]) r else none
def aoa{L:Flags.Locker}{ms:aG}(hk:L.kinds=ms.M bX)(f:sr ms)(hn:∀m∈ms,m.role=0->iQ m.name=true)(z:LI)(r:dm):∀(i:Nat)(past:List nu),(∀w∈r,bf w)->
  (∀es,(z=[]/\ur ms past r=Α es)->L.judgeEntries i Áf ((r++[z]).M ê)=.ok (es.M oK))/\((¬z=[]\/ur ms past r=Β)->∃e,L.judgeEntries i Áf ((r++[z]).M ê)=.error e):=by
 induction r with
 |nil=>
  intro i past _;let J:L.judgeEntries i Áf ((([]:dm)++[z]).M ê)=if z.M B=[] then .ok Áf else .error (1,i):=rfl;rw[J];apply(λes h=>?_,λh=>?_)
  .rw[af (by rw[h.1];rfl),show past=es from aO h.2]
  .rcases h with h|h
   .exact(_,ag (λq=>h (À q)))
   .cases h
 |cons w r ih=>
  intro i past Y;let O:=Y w Ä;let g:=OQ f;obtain⟨y,U,W⟩:∃y U,(r++[z]).M ê=y::U:=by
   cases r with
   |nil=>exact(_,_,Á)
   |cons a b=>exact(_,_,Á)
  let J:L.judgeEntries i Áf (((w::r)++[z]).M ê)=match Flags.entryIn Į with
    |none=>.error (1,i)
    |some (n,m)=>match L.entryRow Áf n with
     |.error k=>.error (k,i)
     |.ok row=>L.judgeEntries (i+1) (past.M oK++[⟨row,m⟩]) ((r++[z]).M ê):=by
   rw[show((w::r)++[z]).M ê=w.M B::y::U from cw (w.M B:: ·) W,W];rfl
  let j:=entry_eq hk f hn O;let eg:ur ms past (w::r)=match iJ ms w with
   |none=>none
   |some e=>if (kZ ms e.1&&(qQ past e&&decide (past.L<2048)))=true then ur ms (past++[e]) r else none:=rfl
  rw[J,eg];cases e1:Flags.entryIn Į with
  |none=>
   rw[e1] at j;let F:iJ ms w=Β:=by
    cases e:iJ ms w with
    |none=>rfl
    |some x=>rw[e] at j;cases j
   rw[F];exact(λes h=>(by cases h.2),λ_=>⟨_,Á⟩)
  |some x=>
   let(n,m):=x;rw[e1,Er] at j;dsimp only at j⊢;ext Flags.Locker.entryRow;cases e3:L.rowIn n with
   |none=>
    rw[e3] at j;let F:iJ ms w=Β:=by
     cases e:iJ ms w with
     |none=>rfl
     |some x=>rw[e] at j;cases j
    rw[F];exact(λes h=>(by cases h.2),λ_=>⟨_,Á⟩)
   |some row=>
    rw[e3] at j;cases F:iJ ms w with
    |none=>rw[F] at j;cases j
    |some e=>
     rw[F] at j;let j:=aO j;let xm:=cw Prod.fst j;let G5:=cw Prod.snd j;subst xm G5;let kO:=(Ob F).2;let ec:=an9 hk g (row:=e.1) λs hs=>(kO s hs).2;let el:((past.M oK).getLast?.any λ(p:Flags.Entry)=>!Flags.rowBefore p.row e.1)=!qQ past e:=by
      ext qQ;rw[Ej,List.getLast?_map];cases past.getLast? with
      |none=>rfl
      |some p=>
       show(!Flags.rowBefore p.1 e.1)=!vz p.1 e.1;rw[an8]
     let em:(past.M oK).L=past.L:=az ..;dsimp only;rw[<-ec,el,em];let(j1,j2):=ih (i+1) (past++[e]) λv hv=>Y v (aQ _ hv);rw[bZ,show[e].M oK=[⟨e.1,e.2.M B⟩] from rfl] at j1 j2;cases hcan:kZ ms e.1 with
     |false=>
      rw[af (rfl:false=false),lU,ag d8];exact(λes h=>(by cases h.2),λ_=>⟨_,Á⟩)
     |true=>
      rw[ag (by decide:¬(true=false)),lW];cases hnx:qQ past e with
      |false=>
       rw[af (by decide:(!false)=true),lU,ag d8];exact(λes h=>(by cases h.2),λ_=>⟨_,Á⟩)
      |true=>
       rw[ag (by decide:¬(!true)=true),lW];by_cases Z:past.L<2048
       .rw[ag (show ¬Flags.ENTRIES<=past.L from λq=>by let:(2048:Nat)<=past.L:=q;lia),eN Z,af rfl];exact(j1,j2)
       .rw[af (show Flags.ENTRIES<=past.L from by show(2048:Nat)<=past.L;lia),fZ Z,ag d8];exact(λes h=>(by cases h.2),λ_=>⟨_,Á⟩)
def uu:List nu->List nu->Bool
 |_,[]=>true
 |past,e::es=>qQ past e&&uu (past++[e]) es
def aoc(ms:aG)(r:dm):∀(j:List nu),ur ms j r=match jj ms r with
  |none=>none
  |some es=>if (es.all (λe=>kZ ms e.1)&&(uu j es&&decide (j.L+es.L<=2048\/es=[])))=true then some (j++es) else none:=by
 induction r with
 |nil=>
  intro j;show some j=if _ then some (j++[]) else none;rw[jG,af];simp[uu]
 |cons w r W=>
  intro j;ext ur jj;cases e1:iJ ms w with
  |none=>
   cases jj ms r <;> rfl
  |some e=>
   dsimp only;rw[W (j++[e])];cases e2:jj ms r with
   |none=>
    split <;> rfl
   |some es=>
    dsimp only;rw[sC,show uu j (e::es)=(qQ j e&&uu (j++[e]) es) from rfl,qW,show[e]++es=e::es from rfl,mq,show[e].L=1 from rfl,df (a:=e) (as:=es)];let hd:(decide (j.L+(es.L+1)<=2048\/e::es=[]))=(decide (j.L<2048)&&decide (j.L+1+es.L<=2048\/es=[])):=by
     rw[pW,jq,nD,nD,nD];constructor
     .rintro (h|h)
      .exact(by lia,Or.inl Ô)
      .cases h
     .rintro⟨Y,h2⟩;rcases h2 with h2|h2
      .exact Or.inl Ô
      .subst h2;exact Or.inl (by simp only[sy];assumption)
    rw[hd];generalize kZ ms e.1=m;generalize es.all (λe=>kZ ms e.1)=z;generalize qQ j e=F;generalize uu (j++[e]) es=J;generalize decide (j.L<2048)=O;generalize decide (j.L+1+es.L<=2048\/es=[])=U;cases m <;> cases z <;> cases F <;> cases J <;> cases O <;> cases U <;> rfl
theorem aod(es:List nu):∀(j:List nu)(p:nu),uu (j++[p]) es=((p::es).zip es).all λq=>vz q.1.1 q.2.1:=by
 induction es with
 |nil=>exact @λj p=>Á
 |cons e es m=>
  intro j p;let m:=m (j++[p]) e;show(qQ (j++[p]) e&&uu (j++[p]++[e]) es)=_;rw[m,Ea,sC];congr 1;ext qQ;rw[List.getLast?_concat];show(!(!vz p.1 e.1))=_;rw[Ej]
theorem aoe(es:List nu):uu [] es=AS (es.M (·.1)):=by
 cases es with
 |nil=>rfl
 |cons e es=>
  show(qQ [] e&&uu ([]++[e]) es)=_;rw[aod];ext AS;rw[show qQ [] e=true from rfl,lW,a8,List.drop_succ_cons,List.drop_zero,<-a8,List.zip_map,sD];rfl
theorem aof{ms:aG}{r:dm}:∀{es:List nu},jj ms r=Α es->es.L=r.L:=by
 induction r with
 |nil=>
  intro es h;rw[<-aO h];rfl
 |cons w r j=>
  intro es h;delta jj at h;cases e1:iJ ms w with
  |none=>rw[e1] at h;cases jj ms r <;> cases h
  |some e=>
   cases e2:jj ms r with
   |none=>rw[e1,e2] at h;cases h
   |some m=>
    rw[e1,e2] at h;rw[<-aO h,df,df,j e2]
theorem aog{ms:aG}(nm:LI)(r:dm):(if r.L<=2048 then Hf ms nm (jj ms r) else none)=(ur ms [] r).M λes=>(nm,es):=by
 rw[aoc];cases e:jj ms r with
 |none=>
  show(if r.L<=2048 then none else none)=Β;simp
 |some es=>
  let j:=aof e;dsimp only;rw[aoe,show([]:List nu).L+es.L=es.L by simp,j];show(if r.L<=2048 then (if (AS (es.M (·.1))&&(es.M (·.1)).all (kZ ms))=true then some (nm,es) else none) else none)=Option.map _ (if _ then some ([]++es) else none);grind
def aoh{L:Flags.Locker}{nm:LI}{ms:aG}(hk:L.kinds=ms.M bX)(Hg:L.name=nm.M B)(Y:bf nm)(f:sr ms)(hn:∀m∈ms,m.role=0->iQ m.name=true){b:LI}(h:bf b):
  (∀y,jV nm ms b=Α y->L.judgeBook ϝ=.ok ⟨y.1.M B,y.2.M oK⟩)/\(jV nm ms b=Β->∃e,L.judgeBook ϝ=.error e):=by
 let J:Flags.cutAt 10 ϝ=(aJ 10 b).M ê:=yp 10 Ù b h;let F:=qv 10 (l:=b) h;obtain⟨ls,z,ew⟩:∃ls z,aJ 10 b=ls++[z]:=by
  rcases qA (aJ 10 b) with e|⟨r,x,e⟩
  .exact absurd e (l8 10 b)
  .exact(r,x,e)
 let hw:jP b=if z=[] then some ls else none:=by
  ext jP;rw[ew,show(ls++[z]).getLastD []=z by simp,asp]
 rw[ew] at J F;ext jV;rw[hw]
 match ls,J,F with
 |[],J,F=>
  let hb:book1 nm ms (if z=[] then some [] else none)=Β:=by split <;> rfl
  rw[hb];apply(λy j=>(by cases j),λ_=>⟨(1,0),?_⟩);ext Flags.Locker.judgeBook;rw[J];rfl
 |[l],J,F=>
  let hb:book1 nm ms (if z=[] then some [l] else none)=Β:=by split <;> rfl
  rw[hb];apply(λy j=>(by cases j),λ_=>?_);ext Flags.Locker.judgeBook;rw[J];show ∃e,(match Flags.wordName (Flags.ascii "book") Ľ with
   |none=>(Except.error (1,0):Except Flags.Fault Flags.Book)
   |some n=>Except.error (1,1))=Except.error e
  cases Flags.wordName (Flags.ascii "book") Ľ with
  |none=>exact(_,Á)
  |some n=>exact(_,Á)
 |l::fo::r,J,F=>
  let W:=F l Ä;let YL:=F fo Ä;let h8r:∀w∈r,bf w:=λw hw=>F w (by simp[hw]);let ej:L.judgeBook ϝ=match (fj (codes "book") l).M (λn=>n.M B) with
    |none=>.error (1,0)
    |some n=>match (fj (codes "for") fo).M (λn=>n.M B) with
     |none=>.error (1,1)
     |some o=>if o≠L.name then .error (2,1) else (L.judgeEntries 2 [] ((r++[z]).M ê)).M λ(l:List Flags.Entry)=>(⟨n,l⟩:Flags.Book):=by
   rw[<-YE "book" "book" Æm È W,<-YE "for" "for" Æm È YL];ext Flags.Locker.judgeBook;rw[J];let U:((r++[z]).M ê).isEmpty=false:=by
    cases r <;> rfl
   show(match Flags.wordName (Flags.ascii "book") Ľ with
    |none=>(Except.error (1,0):Except Flags.Fault Flags.Book)
    |some n=>if ((r++[z]).M (λ(w:LI)=>w.M B)).isEmpty=true then Except.error (1,1) else match Flags.wordName (Flags.ascii "for") (fo.M B) with
     |none=>Except.error (1,1)
     |some o=>if o≠L.name then Except.error (2,1) else (L.judgeEntries 2 [] ((r++[z]).M (λ(w:LI)=>w.M B))).M λ(l:List Flags.Entry)=>(⟨n,l⟩:Flags.Book))=_
   rw[U];cases Flags.wordName (Flags.ascii "book") Ľ with
   |none=>rfl
   |some n=>
    dsimp only;rw[ag d8]
  let eb:book1 nm ms (if z=[] then some (l::fo::r) else none)=if z=[] then (match fj (codes "book") l with
    |none=>none
    |some n=>if fj (codes "for") fo=Α nm then (ur ms [] r).M λes=>(n,es) else none) else none:=by
   by_cases hz:z=[]
   .rw[af hz,af hz];show(if r.L<=2048 then Oa nm ms (fj (codes "book") l) (fj (codes "for") fo) r else none)=_;cases fj (codes "book") l with
    |none=>
     show(if r.L<=2048 then none else none)=Β;split <;> rfl
    |some n=>
     dsimp only;rw[<-aog];show(if r.L<=2048 then (if fj (codes "for") fo=Α nm then Hf ms n (jj ms r) else none) else none)=_;split <;> split <;> rfl
   .rw[ag hz,ag hz];rfl
  rw[ej,eb];let(j1,j2):=aoa hk f hn z r 2 [] h8r;rw[mr] at j1 j2;cases e1:fj (codes "book") l with
  |none=>
   apply(λy j=>?_,λ_=>⟨_,Á⟩);split at j <;> cases j
  |some n=>
   cases e2:fj (codes "for") fo with
   |none=>
    apply(λy j=>?_,λ_=>⟨_,Á⟩);split at j
    .dsimp only at j;rw[ag (by intro q;cases q)] at j;cases j
    .cases j
   |some o=>
    let Z:bf o:=by
     delta fj at e2;split at e2
     .rename_i a c ec;split at e2
      .rw[<-aO e2];exact qv 32 YL c (by rw[ec];simp)
      .cases e2
     .cases e2
    dsimp only[Option.map_some];by_cases ho:o=nm
    .subst ho;rw[ag (λq:o.M B≠L.name=>q Hg.symm),af rfl];by_cases hz:z=[]
     .rw[af hz];cases eg:ur ms [] r with
      |none=>
       let(e,O):=j2 (Or.inr eg);exact(λy j=>(by cases j),λ_=>⟨e,by rw[O];rfl⟩)
      |some es=>
       let O:=j1 es ⟨hz,eg⟩;apply(λy j=>?_,λj=>(by cases j));let j:(n,es)=y:=aO j;rw[<-j,O];rfl
     .rw[ag hz];let(e,O):=j2 (Or.inl hz);exact(λy j=>(by cases j),λ_=>⟨e,by rw[O];rfl⟩)
    .let U:o.M B≠L.name:=λq=>ho (wM Z Y (q.R Hg));rw[af U,ag (λq:some o=Α nm=>ho (aO q))];apply(λy j=>?_,λ_=>⟨_,Á⟩);split at j <;> cases j
def uv(l:LI):Prop:=∀x∈l,0<=x/\x<=16
def OU:Told->Prop
 |.side s l=>s<3/\iW l
 |.hoist k=>k<4
 |.shape k=>k<4
 |.row l=>l.L=4/\uv l
structure y4(m:fT):Prop where
 cl:m.classes=[]\/iW m.classes
 sd:m.side<3
 dh:m.ak.L<=4
 fl:∀g∈m.ak,g.flags.L<=8
 ce:∀g∈m.ak,∀f∈g.flags,f.1<4/\uv f.2
def YM(h:jN signs part=Α l):l.L=part.L/\∀x∈l,0<=x/\x<signs.L:=by
 delta jN at h;grind
theorem aom(h:kG w=Α t):OU t:=by
 delta kG at h;cases j:dZ w with
 |some x=>
  rw[j] at h;let h:=(aO h).symm;subst h;delta HD.dZ at j;split at j
  .rename_i a b c J;split at j
   .cases e2:bC va b with
    |none=>symm
    |some s=>
     cases e3:iz c with
     |none=>symm
     |some l=>
      rw[e2,e3] at j;let j:=(aO j).symm;subst j;apply(Ar e2,?_);delta iz at e3;split at e3
      .rename_i hc;let(F,p2):=YM e3;let m:lK.L=16:=by decide+kernel
       rw[m] at p2;exact(F.R hc,p2)
      .symm
   .symm
  .symm
 |none=>
  rw[j] at h;cases e2:bC iF w with
  |some k=>
   rw[e2] at h;let h:=(aO h).symm;subst h;exact Ar e2
  |none=>
   rw[e2] at h;cases e3:bC iG w with
   |some k=>
    rw[e3] at h;let h:=(aO h).symm;subst h;exact Ar e3
   |none=>
    rw[e3] at h;cases e4:kC w with
    |none=>symm
    |some l=>
     rw[e4] at h;let h:=(aO h).symm;subst h;apply(UZ e4,λx z=>?_);delta kC at e4;split at e4
     .let:=(YM e4).2 x z;let m:qu.L=17:=by decide+kernel
      lia
     .symm
theorem aon(h:OU t):VG t:=by
 cases t with
 |side s l=>exact h.2.1
 |hoist k=>trivial
 |shape k=>trivial
 |row l=>exact h.1
def aoo{m:fT}(v:y4 m){t:Told}(g:OU t)(h:dw m t.sort=true):y4 (rS m t):=by
 let upd:∀(gs:List iP)(F:iP->iP),m.ak=gs->(∀x∈m.ak.getLast?,(F x).flags.length<=8/\∀f∈(F x).flags,f.1<4/\uv f.2)->y4 ⟨m.side,m.classes,m.ak.dropLast++(m.ak.getLast?.M F).toList⟩:=λgs F _ Z=>by
  let Y:∀y∈m.ak.dropLast++(m.ak.getLast?.M F).toList,y∈m.ak\/∃x,m.ak.getLast?=Α x/\y=F x:=λy j=>by
   rcases gM.mp j with j|j
   .exact Or.inl (Bp _ j)
   .cases e:m.ak.getLast? with
    |none=>rw[e] at j;cases j
    |some x=>
     rw[e] at j;exact Or.inr ⟨x,Á,À j⟩
  apply(v.cl,v.sd,?_,λy j=>?_,λy j=>?_)
  .show(m.ak.dropLast++(m.ak.getLast?.M F).toList).L<=4;let:=v.dh;rcases qA m.ak with e|⟨r,x,e⟩
   .rw[e];simp
   .rw[e] at this⊢;simp at this⊢;exact this
  .rcases Y y j with h|⟨x,O,rfl⟩
   .exact v.fl y h
   .exact(Z x O).1
  .rcases Y y j with h|⟨x,O,rfl⟩
   .exact v.ce y h
   .exact(Z x O).2
 cases t with
 |side s l=>exact(Or.inr g.2,g.1,v.dh,v.fl,v.ce)
 |hoist k=>
  let h4:=UQ h;apply(v.cl,v.sd,?_,λy j=>?_,λy j=>?_)
  .show(m.ak++[_]).L<=4;rw[mq];exact h4
  .rcases gM.mp j with j|j
   .exact v.fl y j
   .obtain rfl:y=_:=by simpa using j
    exact du _
  .rcases gM.mp j with j|j
   .exact v.ce y j
   .obtain rfl:y=_:=by simpa using j
    intro f J;cases J
 |shape k=>
  apply upd _ _ Á λx O=>?_;let O:m.ak.getLast?=Α x:=O;let U:=Ek O;let h8:x.flags.L<8:=by
   let h:dw m 2=true:=h;delta dw at h;split at h
   .simp at h
   .split at h
    .simp at h
    .split at h
     .rename_i hq;exact absurd hq Ù
     .rw[O] at h;simpa using h
  apply(?_,λf J=>?_)
  .show(x.flags++[(k,[])]).L<=8;rw[mq];exact h8
  .rcases gM.mp J with J|J
   .exact v.ce x U f J
   .obtain rfl:f=_:=by simpa using J
    exact(g,λy j=>absurd j Ä)
 |row l=>
  apply upd _ _ Á λx O=>?_;let O:m.ak.getLast?=Α x:=O;let U:=Ek O;let W:=v.fl x U;let lF:=v.ce x U;apply(?_,λf J=>?_)
  .show(x.flags.dropLast++(x.flags.getLast?.M λs=>(s.1,s.2++l)).toList).L<=8;rcases qA x.flags with e|⟨r,y,e⟩
   .rw[e];simp
   .rw[e] at W⊢;simp at W⊢;exact W
  .rcases gM.mp J with J|J
   .exact lF f (Bp _ J)
   .cases e:x.flags.getLast? with
    |none=>rw[e] at J;cases J
    |some y=>
     rw[e] at J;obtain rfl:f=_:=À J
     let j:=lF y (Ek e);exact(j.1,λz hz=>(gM.mp hz).elim (j.2 z) (g.2 z))
def aop{m:fT}{s:Flags.PlateState}(r:AA m s):(qD m=true->s.over=Α (m5 m)/\m.classes≠[]/\∀g∈m.ak,∀f∈g.flags,f.2.L=16)/\(qD m=false->s.over=Β):=by
 let(Z,ho,hd):=r;ext qD Flags.PlateState.over;cases ho with
 |vk F h2 J=>
  rw[Gu J,Qx,QC,F,h2,MX];ext lL;cases e:m.ak.getLast? with
  |none=>
   let:m.ak=[]:=by
    rcases qA m.ak with j|⟨r,x,j⟩
    .exact j
    .rw[j,ajC] at e;cases e
   rw[this];apply(λz=>(by cases z),λ_=>?_);cases s.head <;> rfl
  |some g=>
   let O:m.ak≠[]:=λz=>by rw[z] at e;cases e
   let hc:m.classes≠[]:=λz=>O (hd z);let U:m.ak.isEmpty=false:=À O
   rw[U,Z,ag hc,Qx,lW];dsimp only[Option.map_some];let W:(jh g).flags.isEmpty=g.flags.isEmpty:=by
    ext jh;dsimp only;cases g.flags <;> rfl
   rw[W];apply(λz=>⟨?_,hc,J⟩,λz=>?_)
   .let z:g.flags.isEmpty=false:=by simpa using z
    rw[z,ag d8];rfl
   .let z:g.flags.isEmpty=true:=by simpa using z
    rw[z,af rfl]
 |opened gs a b fs k cs F h2 J Y h5 h6 h7=>
  rw[Gv F Y,Bool.not_true,zj,zj,h2];apply(λz=>(by cases z),λ_=>?_);cases s.head <;> rfl
def go_eq(z:LI)(ls:dm):∀(i:Nat)(m:fT)(s:Flags.PlateState),(∀w∈ls,bf w)->AA m s->y4 m->
  (∀j,mZ i m ls=.ok j->∃s',AA j s'/\y4 j/\Flags.plateLines i s ((ls++[z]).M ê)=Flags.plateLines (i+ls.L) s' [z.M B])/\(∀e,mZ i m ls=.error e->∃U,Flags.plateLines i s ((ls++[z]).M ê)=.error U):=by
 induction ls with
 |nil=>
  intro i m s _ r v;exact⟨λj h=>by
   let h:m=j:=by injection h
   subst h;exact(s,r,v,Á),λe h=>(by cases h)⟩
 |cons w ls ih=>
  intro i m s O r v;obtain⟨y,F,J⟩:∃y F,(ls++[z]).M ê=y::F:=by
   cases ls with
   |nil=>exact(_,_,Á)
   |cons a b=>exact(_,_,Á)
  let Y:Flags.plateLines i s (((w::ls)++[z]).M ê)=match Flags.plateLine Į with
    |none=>.error (1,i)
    |some x=>match s.line x with
     |none=>.error (2,i)
     |some t=>Flags.plateLines (i+1) t ((ls++[z]).M ê):=by
   rw[show((w::ls)++[z]).M ê=w.M B::y::F from cw (w.M B:: ·) J,J];rfl
  rw[Y,ajB (O w Ä)];ext mZ;cases e1:kG w with
  |none=>exact(λj h=>(by cases h),λe _=>⟨_,Á⟩)
  |some t=>
   let g:=aom e1;let(s1,s2):=ajD r (aon g);dsimp only[Option.map_some];cases hm:dw m t.sort with
   |false=>
    rw[ag d8,s2 hm];exact(λj h=>(by cases h),λe _=>⟨_,Á⟩)
   |true=>
    let(s',W,r2):=s1 hm;rw[af rfl,W];let(j1,j2):=ih (i+1) (rS m t) s' (λx Z=>O x (aQ _ Z)) r2 (aoo v g hm);apply(λj h=>?_,j2);let(s3,a,b,c):=j1 j h;apply(s3,a,b,?_);rw[df,show i+(ls.L+1)=i+1+ls.L by lia];exact c
structure OV(m:fT):Prop where
 inv:y4 m
 cl:iW m.classes
 yI:∀g∈m.ak,∀f∈g.flags,f.2.L=16
def YN{p:LI}(h:bf p):(∀m,gW p=.ok m->Flags.plateIn Ág=.ok (m5 m)/\OV m)/\(∀e,gW p=.error e->∃W,Flags.plateIn Ág=.error W):=by
 let pz:Flags.cutAt 10 Ág=(aJ 10 p).M ê:=yp 10 Ù p h;let Y:=qv 10 (l:=p) h;obtain⟨ls,z,j⟩:∃ls z,aJ 10 p=ls++[z]:=by
  rcases qA (aJ 10 p) with e|⟨r,x,e⟩
  .exact absurd e (l8 10 p)
  .exact(r,x,e)
 let qY:p=[]->ls=[]/\z=[]:=λe=>by
  rw[e] at j;let j:[[]]=ls++[z]:=j;cases ls with
  |nil=>
   refine Ŷ;simpa using j.symm
  |cons a b=>
   let:=cw List.length j;simp at this
 let oO:ls=[]->z=[]->p=[]:=λe1 e2=>by
  rw[e1,e2] at j;cases p with
  |nil=>rfl
  |cons x r=>
   let j:(if x=10 then []::aJ 10 r else match aJ 10 r with|[]=>[[x]]|w::l=>(x::w)::l)=[[]]:=j;by_cases Z:x=10
   .rw[af Z] at j;injection j with _ j;exact absurd j (l8 10 r)
   .rw[ag Z] at j;cases e:aJ 10 r with
    |nil=>exact absurd e (l8 10 r)
    |cons w l=>rw[e] at j;cases j
 rw[j] at pz Y;let em:gW p=match mZ 0 ⟨0,[],[]⟩ ls with
   |.error e=>.error e
   |.ok m=>if p=[]\/z≠[] then .error (1,ls.L) else if qD m=true then .ok m else .error (2,ls.L):=by
  ext gW;rw[j,asp,show(ls++[z]).getLastD []=z by simp]
  try rfl
 let ei:Flags.plateIn Ág=Flags.plateLines 0 ⟨none,[],none⟩ ((ls++[z]).M ê):=by
  ext Flags.plateIn;rw[pz]
 rw[em,ei];let r0:AA ⟨0,[],[]⟩ ⟨none,[],none⟩:=⟨rfl,.vk rfl rfl (λg J=>absurd J Ä),λ_=>rfl⟩;let v0:y4 ⟨0,[],[]⟩:=⟨Or.inl rfl,by decide,by decide,λg J=>absurd J Ä,λg J=>absurd J Ä⟩;let(j1,j2):=go_eq z ls 0 _ _ (λw O=>Y w (by simp[O])) r0 v0;cases eg:mZ 0 ⟨0,[],[]⟩ ls with
 |error e=>exact(λm F=>(by cases F),λ_ _=>j2 e eg)
 |ok m=>
  let(s',r',v',W):=j1 m eg;rw[W,xH];let el:Flags.plateLines ls.L s' [z.M B]=if z.M B≠[]\/ls.L=0 then .error (1,ls.L) else match s'.over with
    |some z=>.ok z
    |none=>.error (2,ls.L):=rfl
  rw[el];let(o1,o2):=aop r';by_cases hc:p=[]\/z≠[]
  .let U:z.M B≠[]\/ls.L=0:=by
    rcases hc with hc|hc
    .exact Or.inr (by rw[(qY hc).1];rfl)
    .exact Or.inl (λq=>hc (À q))
   dsimp only;rw[af hc,af U];exact(λm F=>(by cases F),λ_ _=>⟨_,Á⟩)
  .let U:¬(z.M B≠[]\/ls.L=0):=by
    rintro (q|q)
    .exact hc (Or.inr λe=>q (by rw[e];rfl))
    .apply hc ?_;by_cases hz:z=[]
     .exact Or.inl (oO (Qq.mp q) hz)
     .exact Or.inr hz
   dsimp only;rw[ag hc,ag U];cases O:qD m with
   |true=>
    let(a,b,c):=o1 O;rw[af rfl,a];apply(λm' F=>?_,λ_ F=>(by cases F));let F:m=m':=by injection F
    subst F;exact(Á,v',v'.cl.resolve_left b,c)
   |false=>
    rw[ag d8,o2 O];exact(λm F=>(by cases F),λ_ _=>⟨_,Á⟩)
def aoq(h:bf p)(e:gW p=.ok m):Hu m:=by
 let(_,f):=(YN h).1 m e;exact(f.cl.1,by let:=f.inv.dh;lia,λg j=>by let:=f.inv.fl g j;lia,f.yI)
def YO(l i:Nat):Flags.cell l i<16:=ZK _ Ù
def aor{classes look:LI}(hc:iW classes)(h:iW look){side:Nat}(hs:side=0\/side=1){i:Nat}(hi:i<16):(tQ look classes side).D i 0=((Flags.cell (Flags.seenFrom Ě side (eT look)) i:Nat):Int):=by
 let J:∀j,j<16->0<=look.D j 0/\look.D j 0<16:=λj m=>h.2 _ (getD_mem (by rw[h.1];exact m));let z:∀j,j<16->classes.D j 0=((Flags.cell Ě j:Nat):Int):=λj m=>by
  let:=hc.2 _ (getD_mem (l:=classes) (i:=j) (by rw[hc.1];exact m));rw[C5 hc m];grind
 ext Flags.seenFrom Flags.inLight tQ;rw[Gp _ hi,Nat.mod_eq_of_lt (YO _ _)];rcases hs with hs|hs
 .rw[ag Å,af hs,ip,bU,C5 h hi];let e:look[i]? =Α (look.D i 0):=by
   rw[ip,c7 (by rw[h.1];exact hi)];rfl
  rw[e];let:=J i hi;exact z _ Ô
 .rw[af hs,ag Å,ip,bU,QB hi];ext Flags.behind;let F:=VN hi;rw[Gp _ hi,Nat.mod_eq_of_lt (YO _ _),show 4*(i/4)+(3-i%4)=rY i by ext rY;lia,C5 h F];let:=J _ F;exact z _ Å
theorem aos(P:Nat->Bool):∀n,((List.range n).J P).foldl (λ(n i:Nat)=>n+2^i) 0<2^n/\∀i,i<n->(((List.range n).J P).foldl (λ(n i:Nat)=>n+2^i) 0).testBit i=P i:=by
 intro n;induction n with
 |zero=>exact(by show 0<1;decide,λi hi=>absurd hi (Nat.not_lt_zero _))
 |succ n z=>
  let(j,h2):=z;rw[IF,El,List.foldl_append];generalize ((List.range n).J P).foldl (λ(n i:Nat)=>n+2^i) 0=m at j h2;let F:2^(n+1)=2^n+2^n:=by rw[QA];lia
  cases hp:P n with
  |false=>
   rw[xJ,hp,ag d8];apply(by show m<_;omega,λi hi=>?_);rcases asq (Nat.lt_succ_iff.mp hi) with q|q
   .exact h2 i q
   .rw[q,hp];exact Ep j
  |true=>
   rw[xJ,hp,af rfl];apply(by show m+2^n<_;simp_all,λi hi=>?_);show(m+2^n).testBit i=_;rw[Nat.add_comm];rcases asq (Nat.lt_succ_iff.mp hi) with q|q
   .rw[asj q];exact h2 i q
   .rw[q,hp,asl,Ep j];rfl
def aot(z:s.2.L=16)(hc:uv s.2)(hi:i<16):(iB s).cells.testBit i=!decide (s.2.D i 0=16)/\(¬s.2.D i 0=16->((Flags.cell (iB s).look i:Nat):Int)=s.2.D i 0):=by
 let j:(s.2.M iX).D i none=iX (s.2.D i 0):=by
  symm
 let hr:=hc _ (getD_mem (l:=s.2) (i:=i) Å);apply(?_,λm=>?_)
 .show(((List.range 16).J λ(i:Nat)=>((s.2.M iX).D i none).isSome).foldl (λ(n i:Nat)=>n+2^i) 0).testBit i=_;rw[(aos _ 16).2 i hi,j];ext iX;grind
 .show((Flags.cell (Flags.lookOf λ(i:Nat)=>((s.2.M iX).D i none).D 0) i:Nat):Int)=_;rw[Gp _ hi,j];ext iX;grind
def aou(hc:iW classes)(hk:iW k.look)(hd:d=0\/d=1)(j:s.2.L=16)(hs:uv s.2):
  xi s (pA classes d k)=(((iB s).shape==3||(iB s).shape==(bX k).shape)&&Flags.sameIn (iB s).cells (Flags.seenFrom Ě d (bX k).look) (iB s).look):=by
 let z:((List.range s.2.L).all (xh s.2 (tQ k.look classes d)))=Flags.sameIn (iB s).cells (Flags.seenFrom Ě d (eT k.look)) (iB s).look:=by
  rw[j];ext Flags.sameIn;rw[pW,lV,lV];apply forall_congr' λi=>forall_congr' λhi=>?_;simp at hi;let(m,J):=aot j hs hi;rw[m,Ej];ext xh;rw[aor hc hk hd hi];grind
 let F:xi s (pA classes d k)=if s.1≠3/\s.1≠k.shape then false else (List.range s.2.L).all (xh s.2 (tQ k.look classes d)):=rfl;rw[F,z];show _=((s.1==3||s.1==k.shape)&&Flags.sameIn (iB s).cells (Flags.seenFrom Ě d (eT k.look)) (iB s).look);lia
structure DP(L:Flags.Locker)(ms:aG)(classes:LI)(d:Nat):Prop where
 hk:L.kinds=ms.M bX
 lk:∀k∈ms,iW k.look
 cl:iW classes
 d:d=0\/d=1
def aov(v:DP L ms classes d)(z:s.2.L=16)(hs:uv s.2)(f:Nat):(tU ť s).Y f=L.flagFits Ě d f (iB s):=by
 ext Flags.Locker.flagFits;by_cases j:f<ms.L
 .rw[Yu v.hk j];let m:ms.D f fq∈ms:=by
   symm
  show _=(((iB s).shape==3||(iB s).shape==(bX Ès).shape)&&Flags.sameIn (iB s).cells (Flags.seenFrom Ě d (bX Ès).look) (iB s).look);rw[<-aou v.cl (v.lk _ m) v.d z hs];let e:(ms.M (pA classes d)).D f (0,[])=pA classes d Ès:=by
   symm
  rw[pW,En];ext tU;symm
 .let:L.kinds[f]? =Β:=by
   rw[v.hk,bU,zl Å];rfl
  rw[this,<-Bool.not_eq_true,En];ext tU;grind
theorem YQ(v:DP L ms classes d):∀(fs:List (Nat×LI))(h:LN),(∀f∈fs,f.2.L=16/\uv f.2)->h.L=fs.L->L.flagsFit Ě d h (fs.M iB)=(List.range fs.L).all λi=>((fs.M (tU ť)).D i []).Y (h.D i 0)
 |[],[],_,_=>rfl
 |[],_::_,_,h=>by simp at h
 |_::_,[],_,h=>by simp at h
 |s::fs,f::h,hf,hl=>by
  let m:=YQ v fs h (λx j=>hf x (aQ _ j)) (À hl);let hs:=hf s Ä;show(L.flagFits Ě d f (iB s)&&L.flagsFit Ě d h (fs.M iB))=_;rw[m,<-aov v hs.1 hs.2,df,Ed,sC,sD];rfl
def YR(v:DP L ms classes d){fs:List (Nat×LI)}(j:∀f∈fs,f.2.L=16/\uv f.2){h:LN}{a:Nat}(m:a+fs.L<=h.L):yJ a h (fs.M (tU ť))=L.flagsFit Ě d ((h.drop a).take fs.L) (fs.M iB):=by
 rw[YQ v fs _ j (by grind)];ext yJ;grind
def aow(v:DP L ms classes d){g:iP}(z:∀f∈g.flags,f.2.L=16/\uv f.2){h:LN}(Z:g.flags.L<=h.L):vo h g (yH ť g)=L.fits Ě d h (jh g):=by
 ext vo Nf Flags.Locker.fits yH;let el:(jh g).flags.length=g.flags.L:=az ..;rw[el,pW,pX,pX];show _↔ ∃x,x∈List.range (h.L+1)/\((x==0||g.above)&&((x+g.flags.L==h.L||(g.below&&decide (x+g.flags.L<=h.L)))&&L.flagsFit Ě d ((h.drop x).take g.flags.L) (g.flags.M iB)))=true;constructor
 .rintro⟨i,hi,Y⟩;simp at hi;generalize ex:ou g.below (h.L-g.flags.L)+i=x at Y;let m:x<=tV g.above (h.L-g.flags.L):=by omega
  let U:ou g.below (h.L-g.flags.L)<=x:=by lia
  let j:x+g.flags.L<=h.L:=by
   delta tV at m;grind
  apply(x,uG.mpr Ô,?_);rw[YR v z j] at Y;rw[Y,QC,jq];constructor
  .delta tV at m;grind
  .delta ou at U;grind
 .rintro⟨x,m,Y⟩;rw[jq,jq] at Y;let(W,h2,F):=Y;let j:x+g.flags.L<=h.L:=by
   lia
  let O:x<=tV g.above (h.L-g.flags.L):=by
   ext tV;grind
  let J:ou g.below (h.L-g.flags.L)<=x:=by
   ext ou;lia
  apply(x-ou g.below (h.L-g.flags.L),uG.mpr (by grind),?_);rw[show ou g.below (h.L-g.flags.L)+(x-ou g.below (h.L-g.flags.L))=x by simp_all,YR v z j];exact F
theorem YS(v:DP L ms classes d):∀(hs:bq)(j:List iP),(∀g∈j,∀f∈g.flags,f.2.L=16/\uv f.2)->hs.L=j.L->(∀(i:Nat)h g,hs[i]? =Α h->j[i]? =Α g->g.flags.L<=h.L)->m7 hs j (qJ ms classes d j)=L.allFit Ě d hs (j.M jh)
 |[],[],_,_,_=>rfl
 |[],_::_,_,h,_=>by simp at h
 |_::_,[],_,h,_=>by simp at h
 |h::hs,g::j,hf,hl,hw=>by
  let F:=YS v hs j (λx z=>hf x (aQ _ z)) (À hl) (λi a b m h2=>hw (i+1) a b m h2);show(vo h g (yH ť g)&&m7 hs j (qJ ms classes d j))=(L.fits Ě d h (jh g)&&L.allFit Ě d hs (j.M jh));rw[F,aow v (hf g Ä) (hw 0 h g rfl rfl)]
theorem aox:∀(cs rows:bq),cs.foldl pN rows=rows.flatMap λr=>(Flags.rowsFrom cs).M (r++ ·):=by
 intro cs;induction cs with
 |nil=>
  intro rows;show rows=rows.flatMap λr=>[r++[]];induction rows with
  |nil=>rfl
  |cons a l j=>rw[Em,<-j,jG];rfl
 |cons c cs j=>
  intro rows;rw[IJ,j];ext pN;rw[List.flatMap_assoc];congr 1;funext r;rw[List.flatMap_map];show _=(c.flatMap λ(x:Nat)=>(Flags.rowsFrom cs).M λ(y:LN)=>x::y).M (r++ ·);rw[List.map_flatMap];congr 1;funext x;rw[cZ];congr 1;funext y;simp
theorem YT:∀(cs:bq),[]∈cs->Flags.rowsFrom cs=[]
 |c::cs,h=>by
  show(c.flatMap λ(x:Nat)=>(Flags.rowsFrom cs).M λ(y:LN)=>x::y)=[];rcases aV.mp h with h|h
  .rw[<-h];rfl
  .rw[YT cs h];exact List.flatMap_eq_nil_iff.mpr λ_ _=>Á
def YU(cs:bq):ui cs=Flags.rowsFrom cs:=by
 ext ui;split
 .rename_i h;rw[YT cs (En.mp h)]
 .ext lQ;rw[aox];simp
theorem YV(cs:bq):∀(x:LN),x∈Flags.rowsFrom cs->x.L=cs.L/\∀(i:Nat)n c,x[i]? =Α n->cs[i]? =Α c->n∈c:=by
 induction cs with
 |nil=>
  intro x h;let h:x∈[[]]:=h;simp at h;subst h;exact(Á,λi n c h=>(by simp at h))
 |cons c cs U=>
  intro x h;let h:=h;let(a,J,h):=lr.mp h;let(y,O,rfl):=b9.mp h;let(F,h2):=U y O;apply(by rw[df,df,F],λi n z j m=>?_);cases i with
  |zero=>
   simp at j;simp at m;rw[<-j,<-m];exact J
  |succ i=>exact h2 i n z (À j) (À m)
section
variable{L:Flags.Locker}{B:Flags.Book}{ms:aG}{rows:bq}
def aoy(j:B.entries.M Flags.Entry.row=rows)(g:iP):qP rows g=B.may (jh g):=by
 ext qP Flags.Book.may;let z:rows.L=B.entries.L:=by rw[<-j,az]
 rw[z];apply Z2;intro i hi;let hi:i<B.entries.L:=À hi
 let el:ni rows i=(B.entries[i]).row.length:=by
  ext ni;rw[<-j,ip,bU,c7 hi];rfl
 let m:(jh g).flags.length=g.flags.L:=az ..;rw[c7 hi];dsimp only;rw[m];ext AY;rw[el];show _=if (g.above||g.below)=true then _ else _;cases h:(g.above||g.below) with
 |true=>
  rw[af rfl,lW,pW,Zz,QF,QF,QF];omega
 |false=>
  rw[ag d8,lU,ZP,pW,QF,vK]
def YW(m:B.entries.M Flags.Entry.row=rows)(j:List iP):jW rows j=(j.M jh).M B.may:=by
 ext jW;rw[cZ];apply lh;intro g _;exact aoy m g
def aoz(j:B.entries.M Flags.Entry.row=rows)(m:fT):pP rows m.ak=B.inDoubt (m5 m):=by
 ext pP ia Flags.Book.inDoubt;rw[YW j,cZ];rfl
theorem aoA(m:B.entries.M Flags.Entry.row=rows)(x:LN):(∀n∈x,n<rows.L)->B.rowsOf x=Α Áu:=by
 induction x with
 |nil=>exact @λ_=>Á
 |cons n x j=>
  intro h;let j:=j λz hz=>h z (aQ _ hz);let F:n<B.entries.L:=by
   let:=h n Ä;rw[<-m,az] at this;exact this
  delta Flags.Book.rowsOf at j⊢;rw[IA,j,c7 F];ext jC;rw[a8,<-m];congr 2;rw[ip,bU,c7 F];rfl
def OW(h:n∈qP rows g):n<rows.L/\g.flags.L<=(rows.D n []).L:=by
 delta qP at h;let(j,h2):=jF.mp h;apply(by simp_all,?_);delta AY ni at h2;grind
def aoB(hk:L.kinds=ms.M bX)(g:xw ms)(lk:∀k∈ms,iW k.look)(Y:B.entries.M Flags.Entry.row=rows)(sg:Ba ms rows)(F:OV m):(nk ms rows m).M (·.1)=L.readings B (m5 m):=by
 ext nk Flags.Locker.readings;let ec:(m5 m).hoists.map B.may=jW rows m.ak:=(YW Y m.ak).symm;rw[ec,YU];let fG:∀x∈Flags.rowsFrom (jW rows m.ak),(vC ms rows m.ak (nj ms m) x).M (·.1)=if ((Flags.sides (m5 m).side).any λ(d:Nat)=>(L.mayFrom B (m5 m) x d).isSome)=true then some x else none:=λx hx=>by
  let(oy,gJ):=YV _ _ hx;let gB:(jW rows m.ak).L=m.ak.L:=az ..;let uq:∀(i:Nat)n,x[i]? =Α n->∃gl,m.ak[i]? =Α gl/\n∈qP rows gl:=λi n e=>by
   let hi:i<m.ak.L:=by
    grind
   apply(_,c7 hi,gJ i n _ e ?_);ext jW;symm
  let br:∀n∈x,n<rows.L:=λn hn=>by
   let(i,hi,e):=qV hn;let(gl,_,h):=uq i n (by grind);exact(OW h).1
  let O:Ba ms Áu:=λr hr=>by
   let(n,hn,rfl):=b9.mp hr;apply sg _ ?_;symm
  let hd:=ON hk g O;let jJ:=λhs h=>Xk (ms:=ms) (rows:=jC rows x) (hs:=hs) h;ext vC;rw[hd];ext Flags.Locker.mayFrom;rw[aoA Y x br];show _=if ((Flags.sides (m5 m).side).any λ(d:Nat)=>(if L.canShowAll Áu=true/\L.allFit Èt d (L.displayed Áu) (m.ak.M jh)=true then some (L.displayed Áu) else none).isSome)=true then some x else none;by_cases j:L.canShowAll Áu=true
  .rw[af j] at hd;rw[af j];let J:=jJ _ hd;generalize L.displayed Áu=hs at J;let y6:∀d,d=0\/d=1->m7 hs m.ak ϫ=L.allFit Èt d hs (m.ak.M jh):=λd hd=>by
    apply YS ⟨hk,lk,F.cl,hd⟩ hs m.ak (λgl oo f Z=>⟨F.yI gl oo f Z,(F.inv.ce gl oo f Z).2⟩) ?_ λi h gl h1 h2=>?_
    .let:=cw List.length J;rw[az,az] at this;delta jC at this;symm
    .let z:(hs.M List.length)[i]? =Α h.L:=by rw[bU,h1];rfl
     rw[J,bU] at z;delta jC at z;rw[bU] at z;cases ex:x[i]? with
     |none=>symm
     |some n=>
      rw[ex] at z;let z:(rows.D n []).L=h.L:=À z
      let(gl',U,W):=uq i n ex;rw[h2] at U;rw[<-aO U] at W;let:=(OW W).2;omega
   let NF:((Flags.sides (m5 m).side).any λ(d:Nat)=>(if True/\L.allFit Èt d hs (m.ak.M jh)=true then some hs else none).isSome)=(Flags.sides (m5 m).side).any λd=>m7 hs m.ak ϫ:=by
    rw[pW,pX,pX];apply exists_congr λd=>and_congr_right λhm=>?_;let hd:d=0\/d=1:=by
     let hs:=F.inv.sd;let hm:d∈(if m.side=2 then [0,1] else [m.side]):=hm;grind
    grind
   let ht:=eq_true j;simp only[ht];rw[NF];let es:uj (nj ms m) m.ak hs=(Flags.sides (m5 m).side).J λd=>m7 hs m.ak ϫ:=by
    ext uj nj;rw[zo,cZ];exact List.map_id _
   rw[es];generalize Flags.sides (m5 m).side=ss;by_cases hz:(ss.J λd=>m7 hs m.ak ϫ)=[]
   .symm
   .symm
  .symm
 generalize Flags.rowsFrom (jW rows m.ak)=X at fG;induction X with
 |nil=>rfl
 |cons x X ih=>
  grind
end
def aoD(j:bf t)(h:fV t=Α x):∀k∈x.2,iW k.look:=λk hk=>((OO j h).kv k hk).lk
def aoE(j:bf line)(h:fj w line=Α n):bf n:=by
 delta fj at h;split at h
 .rename_i a c m;split at h
  .rw[<-aO h];exact qv 32 j c Å
  .symm
 .cases h
def aoF(j:bf t)(h:fV t=Α x):bf x.1:=by
 delta fV at h;split at h
 .rename_i l r e;let m:bf l:=by
   delta jP at e;split at e
   .let e:=aO e;let:l∈(aJ 10 t).dropLast:=by rw[e];exact gn
    exact qv 10 j l (Bp _ this)
   .symm
  cases e1:fj (codes "locker") l with
  |none=>rw[e1,C2] at h;cases h
  |some n=>
   cases e2:gR r with
   |none=>rw[e2,C0] at h;cases h
   |some ms=>
    rw[e1,e2] at h;let h:(if (oh ms&&pj ms)=true then some (n,ms) else none)=Α x:=h;split at h
    .rw[<-aO h];exact aoE m e1
    .symm
 .cases h
theorem aoG{ms:aG}{r:dm}:∀{es:List (LN×LI)},jj ms r=Α es->Ba ms (es.M (·.1)):=by
 induction r with
 |nil=>
  intro es h;rw[<-aO h];intro r hr;cases hr
 |cons l r j=>
  intro es h;delta jj at h;cases e1:iJ ms l with
  |none=>rw[e1] at h;cases h
  |some e=>
   cases e2:jj ms r with
   |none=>rw[e1,e2] at h;cases h
   |some m=>
    rw[e1,e2] at h;rw[<-aO h];intro row hr;rcases aV.mp hr with rfl|hr
    .exact λs hs=>((Ob e1).2 s hs).2
    .exact j e2 row hr
def aoH{nm:LI}{ms:aG}{b:LI}{y:LI×List (LN×LI)}(h:jV nm ms b=Α y):Ba ms (y.2.M (·.1)):=by
 delta jV book1 at h;split at h
 .split at h
  .delta Oa at h;split at h
   .symm
   .split at h
    .delta Hf at h;split at h
     .rename_i es e;split at h
      .rw[<-aO h];exact aoG e
      .symm
     .symm
    .symm
  .symm
 .cases h
def DQ(x:LI×aG):Flags.Locker:=⟨x.1.M B,x.2.M bX⟩
def y8(y:LI×List (LN×LI)):Flags.Book:=⟨y.1.M B,y.2.M oK⟩
def YX(y:LI×List (LN×LI)):(y8 y).entries.map Flags.Entry.row=y.2.M (·.1):=by
 ext y8;rw[cZ];rfl
def aoI(O:bf t)(hb:bf b)(hp:bf p)(f:Flags.Locker->Flags.Book->Flags.Plate->bq->Flags.Reply):
  (∀z,Š p=Α z->FlagsK9.ofAll Ád ϝ Ág f=Flags.says z)/\
  (Š p=Β->∀x y m,fV t=Α x->jV x.1 x.2 b=Α y->gW p=.ok m->OV m/\FlagsK9.ofAll Ád ϝ Ág f=f (DQ x) (y8 y) (m5 m) ((nk x.2 (y.2.M (·.1)) m).M (·.1))):=by
 ext refusal FlagsK9.ofAll;rw[az,az,az];let h0:Flags.LOOKED=65536:=rfl;rw[h0];by_cases F:65536<t.L\/65536<b.L\/65536<p.L
 .rw[af F,af F];exact(λz hz=>by rw[<-aO hz];rfl,λh=>(by cases h))
 .rw[ag F,ag F];let(l1,l2):=ajm O;cases el:fV t with
  |none=>
   let(e,j):=l2 el;rw[j];exact(λz hz=>by rw[<-aO hz];rfl,λh=>(by cases h))
  |some x=>
   rw[l1 x el];dsimp only;let lf:=OO O el;let(Z,b2):=aoh (L:=DQ x) (nm:=x.1) (ms:=x.2) rfl rfl (aoF O el) lf (an0 el) hb;cases eb:jV x.1 x.2 b with
   |none=>
    let(e,j):=b2 eb;rw[show(⟨x.1.M B,x.2.M bX⟩:Flags.Locker)=DQ x from rfl,j];exact(λz hz=>by rw[<-aO hz];rfl,λh=>(by cases h))
   |some y=>
    rw[show(⟨x.1.M B,x.2.M bX⟩:Flags.Locker)=DQ x from rfl,Z y eb];let(p1,p2):=YN hp;cases ep:gW p with
    |error e=>
     let(e',j):=p2 e ep;rw[j];exact(λz hz=>by rw[<-aO hz];rfl,λh=>(by cases h))
    |ok m=>
     let(q1,Y):=p1 m ep;rw[q1];dsimp only;let ed:=aoz (YX y) m;rw[show(⟨y.1.M B,y.2.M oK⟩:Flags.Book)=y8 y from rfl,<-ed,show Flags.DOUBT=1024 from rfl];by_cases hd:1024<pP (y.2.M (·.1)) m.ak
     .rw[af hd,af hd];exact(λz hz=>by rw[<-aO hz];rfl,λh=>(by cases h))
     .rw[ag hd,ag hd];apply(λz hz=>(by cases hz),λ_ x' y' m' U J W=>?_);let U:=aO U;subst U;rw[eb] at J;let J:=aO J;subst J;let W:m=m':=by injection W
      subst W;apply(Y,?_);rw[aoB (L:=DQ x) (B:=y8 y) rfl (OQ lf) (aoD O el) (YX y) (aoH eb) Y]
def aoJ{ms:aG}{rows:bq}{m:fT}:∀z∈nk ms rows m,z.1.L=m.ak.L/\∀n∈z.1,n<rows.L:=λz hz=>by
 let(x,J,e):=Ii.mp hz;rw[YU] at J;let(F,W):=YV _ x J;delta jW at F;rw[az] at F;let h2:∀n∈x,n<rows.L:=λn Y=>by
  let(j,U,e):=qV Y;let O:=W j n (qP rows m.ak[j]) (by rw[c7 U,e]) (by ext jW;rw[bU,c7 á];rfl);exact(OW O).1
 delta vC at e;split at e
 .split at e
  .cases e
  .rw[<-aO e];exact(F,h2)
 .cases e
def aoK{ms:aG}{rows:bq}{m:fT}:(nk ms rows m).L<=pP rows m.ak:=by
 ext nk pP;apply gS (List.length_filterMap_le ..) ?_;ext ui;split
 .exact du _
 .exact Bf (by rw[Oh])
def aoL(h:Š p=Β)(j:fV t=Α x)(z:jV x.1 x.2 b=Α y)(F:gW p=.ok m):pP (y.2.M (·.1)) m.ak<=1024:=by
 delta refusal at h;split at h
 .cases h
 .rw[j] at h;dsimp only at h;rw[z] at h;dsimp only at h;rw[F] at h;dsimp only at h;split at h
  .cases h
  .omega
def aoM(j:Nat)(W:bf t)(O:bf b)(U:bf p):
  (∀z,Š p=Α z->PyWqbada.entries ((j:Nat):Int) t b p=[z])/\
  (Š p=Β->∀x y m,fV t=Α x->jV x.1 x.2 b=Α y->gW p=.ok m->PyWqbada.entries ((j:Nat):Int) t b p=A3 ((nk x.2 (y.2.M (·.1)) m).M (·.1)) y.2.L m.ak.L j):=by
 let F:PlateNeutral.callOf [[5,((j:Nat):Int)],t,b,p]=Α (.entries Ád ϝ Ág j):=by
  show(PlateNeutral.text? t >>= λa=>PlateNeutral.text? b >>= λc=>PlateNeutral.text? p >>= λd=>PlateNeutral.nat? ((j:Nat):Int) >>= λj=>some (FlagsK9.Call.entries a c d j))=_;rw[KD W,KD O,KD U];ext PlateNeutral.nat?;rw[af (IG j)];rfl
 let J:∀r,FlagsK9.answer (.entries Ád ϝ Ág j)=r->PyWqbada.entries ((j:Nat):Int) t b p=r.ret::((r.nums.M λ(n:Nat)=>(n:Int))++r.bytes.M λ(b:UInt8)=>(b.toNat:Int)):=λr er=>by
  ext PyWqbada.entries PlateNeutral.f;rw[F,<-er]
 let(Y,Z):=aoI W O U λ_ B z l=>if z.hoists.L<=j then Flags.NO else
  let e:=Flags.entriesAt l j B.entries.L
  Flags.tells (e.L:Nat) e
 apply(λz hz=>?_,λh x y m e1 e2 e3=>?_)
 .rw[J _ (Y z hz)];rfl
 .let(_,e):=Z h x y m e1 e2 e3;rw[J _ e];let l1:(m5 m).hoists.length=m.ak.L:=by ext m5;exact az ..
  let l2:(y8 y).entries.length=y.2.L:=by ext y8;exact az ..
  ext A3;rw[l1,l2];split
  .rfl
  .show(((Flags.entriesAt ((nk x.2 (y.2.M (·.1)) m).M (·.1)) j y.2.L).L:Nat):Int)::(nv (Flags.entriesAt ((nk x.2 (y.2.M (·.1)) m).M (·.1)) j y.2.L)++[])=_;rw[jG];rfl
end HD
namespace HD
open PySem PySem.Spec PyProof.Rows L2
open PySem.W (Codec)
def HJ{K:FR}{C N:Addr}{od vt:OA}{nm Z:Str}{bs sub:LV}{sn:LS}{ab:Bool}{col:Option Bool}{j m z F J:Option Value}{Y:Value}{es:Array DictEntry}{ep:Nat}{sl:AO}(O:K.Q C=Α ⟨.type "type",od,.cls ⟨nm,bs,.ref C::u5,N,Z,true,sn,sub,ab,col,false⟩,#[j,m,z,F,some (.builtin "Exception.__new__"),J]⟩) (h2:K.Q N=Α ⟨Y,vt,.dict es ep,sl⟩)(U:(es.all λe=>match e.key with|.str _ _=>true|_=>false)=true):Sy K C N:=by
 apply(_,_,_,_,_,_,_,_,_,_,_,_,_,O,?_);ext PySem.W.nsOkIn;rw[h2];exact U
def OX{l:LI}(h:l.all Ál=true):JM.bf l:=λx j=>by
 let q:=lV.mp h x j;exact Codec.inInt_iff.mp q
def aoO:typeLookup (.type "Exception") ("kind":Str)=pure none:=by rw[Qv,Qw];kernel_rfl
def aoP:typeLookup (.type "Exception") ("line":Str)=pure none:=by rw[Qv,Qw];kernel_rfl
section
variable{P:Pg}{w:Wd}{K:FR}{h base:Heap}{mg:MG}
def cb(K:FR)(g x:Str)(st:Stmt):Prop:=∃f fd,PySem.W.nsIn K mainGlobals g=Α Âc/\bx K x x st f fd
def ar1{R:LV->Prop}(h:∀a,R [a]):∀U,U.L=1->R U:=λU j=>by
 let(a,rfl):=VH j;exact h a
def ar2{R:LV->Prop}(h:∀a b,R [a,b]):∀U,U.L=2->R U:=λU j=>by
 let(a,b,rfl):=VI j;exact h a b
def OY{R:LV->Prop}(h:∀a b c,R [a,b,c]):∀U,U.L=3->R U:=λU j=>by
 let(a,b,c,rfl):=VJ j;exact h a b c
def DR{R:LV->Prop}(h:∀a b c d,R [a,b,c,d]):∀U,U.L=4->R U:=λU j=>by
 let(a,b,c,d,rfl):=ajK j;exact h a b c d
theorem HK{R:LV->Prop}{n:Nat}(h:∀a U,U.L=n->R (a::U)):∀U,U.L=n+1->R U
 |a::U,hl=>h a U (À hl)
def cb.dn(P:Pg)(w:Wd)(base:Heap){CX:nQ}{k:Nat}{g x:Str}{st:Stmt}{ps:LS}{sp:Sp}(D:cb K g x st)(X:K.In h)(G:h.Ns mainGlobals mg)(hk:∀f fd,bx K x x st f fd->Ì CX k f fd ps sp)(z:∀(kV J pm:Value)(m:OA)(j ct:Value)(us:LV),us.L=ps.L->bindArgs (PySem.W.fnOf x x (uK st) Ån Ák .none kV J pm m j ct) ⟨us,[]⟩=pure Àq:=by first|exact λ_ _ _ _ _ _=>ar1 λ_=>Á|exact λ_ _ _ _ _ _=>ar2 λ_ _=>Á|exact λ_ _ _ _ _ _=>OY λ_ _ _=>Á|exact λ_ _ _ _ _ _=>DR λ_ _ _ _=>Á):č CX k g ps sp:=
 let ⟨f,fd,a,F⟩:=D
 ⟨f,fd,hk f fd F,PySem.W.mg_of X G a,F.kp,F.binds z⟩
structure lR(K:FR)(x qn:Str)(C:Addr)(st:Stmt)(fs:LS):Prop where
 a:PySem.W.nsIn K mainGlobals x=Α (some ą)
 f:∃g fd,Mk K C g/\bx K "__init__" qn st g fd
 c:lD K C
 n:(fs.all λf=>match PySem.W.findIn K ą f with|some none=>true|_=>false)=true
def lR.no{x m:Str}{C:Addr}{st:Stmt}{fs:LS}(D:lR K x m C st fs){f:Str}(j:f∈fs):ϲ f:=by
 let:=lV.mp D.n f j;ext gO;split at this
 .assumption
 .cases this
def lR.t{x m:Str}{C:Addr}{st:Stmt}{fs:LS}(D:lR K x m C st fs):lN K C fs:=⟨D.c,λ_ j=>D.no j⟩
def lR.mk'(P:Pg)(w:Wd)(base:Heap){x z:Str}{C:Addr}{st:Stmt}{fs:LS}(D:lR K x z C st fs)(X:K.In h)(G:h.Ns mainGlobals mg)(d:∀f j A outer s H E,lx (ϗ ("self"::fs) z Ák f j A outer s H E).vW Ån (FY K 1 fs)) (S:bQ ("self"::fs) ("self"::fs) Ák:=by exact cJ Á È) (hs:fs.L<=1000:=by decide)(O:∀(kV Y pm:Value)(J:OA)(j ct:Value)(U:LV),U.L=("self"::fs:LS).L->bindArgs (PySem.W.fnOf "__init__" z (uK st) Ån Ák .none kV Y pm J j ct) ⟨U,[]⟩=pure (("self"::fs:LS).zip U):=by first|exact λ_ _ _ _ _ _=>OY λ_ _ _=>Á|exact λ_ _ _ _ _ _=>DR λ_ _ _ _=>Á|exact λ_ _ _ _ _ _=>HK λ_=>DR λ_ _ _ _=>Á|exact λ_ _ _ _ _ _=>HK λ_=>HK λ_=>HK λ_=>DR λ_ _ _ _=>Á):ć x C fs:=
 let ⟨g,fd,m,F⟩:=D.f
 ⟨g,fd,m,ahx F D.c (λ_ h=>D.no h) S hs (d g),PySem.W.mg_of X G D.a,F.binds O⟩
def Ci(K:FR)(x:Str)(i:Int):Prop:=∃t,PySem.W.nsIn K mainGlobals x=Α (some Áw)
def Ci.cn{x:Str}{i:Int}(c:Ci K x i)(X:K.In h)(G:h.Ns mainGlobals mg):Cn mg x Ãd:=let ⟨t,e⟩:=c;⟨_,PySem.W.mg_of X G e,⟨t,rfl⟩⟩
def Ct(K:FR)(x s:Str):Prop:=∃t,PySem.W.nsIn K mainGlobals x=Α (some (.str s t))
def Ct.cn{x s:Str}(c:Ct K x s)(X:K.In h)(G:h.Ns mainGlobals mg):Cn mg x (.str s):=let ⟨t,e⟩:=c;⟨_,PySem.W.mg_of X G e,⟨t,rfl⟩⟩
def Tu(K:FR)(x:Str)(vs:ay):Prop:=∃a o U n s,PySem.W.nsIn K mainGlobals x=Α (some ā)/\K.Q a=Α ⟨.type "tuple",o,.seq U n,s⟩/\U.u<=100/\a9 vs U.toList
def Tu.tn{x:Str}{vs:ay}(c:Tu K x vs)(X:K.In h)(G:h.Ns mainGlobals mg):Tn K mg x vs:=let ⟨_,_,_,_,_,e,l,z,v⟩:=c;⟨_,PySem.W.mg_of X G e,λ_=>.inr ⟨_,_,_,l,rfl,rfl,gS z Ù,v⟩⟩
def dfk{g x:Str}{st:Stmt}{f:Addr}{O kV z pm j ct:Value}{od m:OA}{F:AO}(a:PySem.W.nsIn K mainGlobals g=Α Âc:=by k_is)(l:K.Q f=Α ⟨O,od,.func (PySem.W.fnOf x x (uK st) Ån Ák .none kV z pm m j ct),F⟩:=by k_is)(c:PySem.W.codeIn K j x=true:=by k_is)(k:PySem.W.keepIn K Ć=true:=by k_is):cb K g x st:=⟨f,_,a,nV l c k⟩
def gj{x:Str}{i:Int}{t:Tok}(e:PySem.W.nsIn K mainGlobals x=Α (some Áw):=by k_is):Ci K x i:=⟨t,e⟩
def Ab(K:FR)(x:Str):Prop:=PySem.W.nsIn K mainGlobals x=Α none
def mi{x:Str}(e:PySem.W.nsIn K mainGlobals x=Α none:=by k_is):Ab K x:=e
def Ab.z{x:Str}(c:Ab K x)(X:K.In h)(G:h.Ns mainGlobals mg):mg x=Β:=PySem.W.mg_none_of X G c
structure HL(K:FR)(x:Str)(C N:Addr):Prop where
 a:PySem.W.nsIn K mainGlobals x=Α (some ą)
 c:XC K C N
 k:PySem.W.keepIn K ą=true
end
def all_mk{P:Pg}{w:Wd}{K:FR}{h:Heap}{mg:MG}{fa:Addr}(X:K.In h)(G:h.Ns mainGlobals mg)(hfa:mg "entries"=Α (.ref fa)){CS CG CP CK CL CV CQ CE fm CR CF CN NN CB NB CT NT nr NP cM TM fM:Addr}{ocM kVM dcM pmM ctM:Value}{odM anM odC:OA}{slM slC:AO}{v0 v1 v2 v3 v4 v5 v6 v8 yo Ks Ku Kw Kx Ky:Value}{fl tx:Int}{tf tt ts:Tok}{bb:Bool}{xs:Str}(ao3:cb K "cell_behind" "cell_behind" KF)(ao4:cb K "cells_seen" "cells_seen" KG)(ao5:cb K "spelled" "spelled" KH)(ao6:cb K "cut" "cut" KI)(ao7:cb K "whole_lines" "whole_lines" KJ)(ao8:cb K "place_among" "place_among" KL)(ao9:cb K "places_in" "places_in" KM)(apa:cb K "read_colours" "read_colours" KN)(apb:cb K "is_name" "is_name" KO)(apc:cb K "name_behind" "name_behind" KP)(apd:cb K "read_locker" "read_locker" KQ)(ape:cb K "read_name" "read_name" KR)(apf:cb K "read_digit" "read_digit" KS)(apg:cb K "read_kind" "read_kind" KU)(aph:cb K "are_in_order_lockers" "are_in_order" KW)(api:cb K "may_follow" "may_follow" KY)(apj:cb K "are_different" "are_different" KZ)(apk:cb K "has_twice" "has_twice" K0)(apl:cb K "read_plate" "read_plate" K2)(apm:cb K "read_line" "read_line" K3)(apn:cb K "read_side" "read_side" K4)(apo:cb K "read_row" "read_row" K5)(apq:cb K "may_stand" "may_stand" K6)(apr:cb K "lacks_flags" "lacks_flags" K7)(aps:cb K "lacks_cells" "lacks_cells" K8)(apt:cb K "has_whole_hoists" "has_whole_hoists" K9)(apu:cb K "put" "put" La)(apv:cb K "sighting_of" "sighting_of" Lb)(apw:cb K "view_of" "view_of" Lc)(apx:cb K "kinds_along" "kinds_along" Ld)(apy:cb K "kinds_that_look_so" "kinds_that_look_so" Le)(apz:cb K "may_be" "may_be" Lf)(apA:cb K "fits" "fits" Lg)(apB:cb K "hoist_fits" "hoist_fits" Lh)(apC:cb K "fits_at" "fits_at" Li)(apD:cb K "display_told" "display_told" Lj)(apE:cb K "copies_lacking" "copies_lacking" Lk)(apF:cb K "sames_along" "sames_along" Ll)(apG:cb K "bits_of_sames" "bits_of_sames" Lm)(apH:cb K "places_of" "places_of" Ln)(apI:cb K "plan_of" "plan_of" Lo)(apJ:cb K "places_outside" "places_outside" Lp)(apK:cb K "copies_in" "copies_in" Lq)(apL:cb K "hoist_told" "hoist_told" Lr)(apM:cb K "flag_told" "flag_told" Ls)(apN:cb K "hang" "hang" Lu)(apO:cb K "read_book" "read_book" Lv)(apP:cb K "numbers_of_signs" "numbers_of_signs" Lw)(apQ:cb K "read_entry" "read_entry" Ly)(apR:cb K "read_signs" "read_signs" Lz)(apS:cb K "read_meaning" "read_meaning" LB)(apT:cb K "are_in_order_books" "are_in_order" LC)(apU:cb K "can_be_shown" "can_be_shown" LD)(apV:cb K "readings_of" "readings_of" LF)(apW:cb K "entries_in_doubt" "entries_in_doubt" LG)(apX:cb K "product" "product" LH)(apY:cb K "all_rows" "all_rows" LJ)(apZ:cb K "sides_of" "sides_of" LK)(ap1:cb K "answered" "answered" LM)(ap2:cb K "found" "found" LO)(ap4:cb K "entries_told" "entries_told" LL)(HM:lR K "Sighting" "Sighting.__init__" CS ag9 ["shape","cells"])(DS:lR K "Glimpse" "Glimpse.__init__" CG aha ["above","below","flags"])(DT:lR K "Plate" "Plate.__init__" CP ahb ["side","classes","glimpses"])(Y:lR K "Kind" "Kind.__init__" CK ag7 ["role","name","which","copies","shape","look"])(Bb:lR K "Locker" "Locker.__init__" CL ag8 ["name","kinds"])(OZ:lR K "View" "View.__init__" CV ahc ["side","glimpses"])(DU:lR K "Plan" "Plan.__init__" CQ ahd ["sames","gaps","spares"])(DV:lR K "Entry" "Entry.__init__" CE ahe ["row","meaning"])(O0:lR K "Book" "Book.__init__" fm ahf ["name","entries"])(YY:lR K "Reading" "Reading.__init__" CR ahg ["entries","hoists","sides"])(YZ:lR K "Finding" "Finding.__init__" CF ahh ["locker","book","plate","readings"])(O1:HL K "NoLocker" CN NN)(ap5:PySem.W.nsIn K NN "__init__"=Α none)(O2:HL K "NoBook" CB NB)(ap6:PySem.W.nsIn K NB "__init__"=Α none)(O3:HL K "TooMuchInDoubt" CT NT)(ap7:PySem.W.nsIn K NT "__init__"=Α none)(O4:HL K "NoPlate" nr NP)(y1:PySem.W.nsIn K NP "kind"=Α none)(y2:PySem.W.nsIn K NP "line"=Α none)(y3:∃f fd,PySem.W.nsIn K NP "__init__"=Α Âc/\PySem.W.isFn K Ć=true/\bx K "__init__" "NoPlate.__init__" K1 f fd)(nz:PySem.W.findCls K (.type "Exception") (.type "type") "__init__"=Α (.val (.builtin "Exception.__init__")))(O5:Ci K "FRONT" 0)(HN:Ci K "BEHIND" 1)(HP:Ci K "CELLS" 16)(HQ:Ci K "ROW" 4)(O6:Ci K "MOST_BYTES" 65536)(HR:Ci K "LINE_END" 10)(y9:Ci K "BLANK" 32)(O7:Ci K "LONGEST_NAME" 8)(za:Ci K "SIGN" 0)(HS:Ci K "SAME" 1)(O8:Ci K "MOST_COPIES" 8)(O9:Ci K "MOST_SAME" 4)(Pa:Ci K "MOST_SIGNS" 48)(Pb:Ci K "DIGIT_ZERO" 48)(Pc:Ci K "MOST_HOISTS" 4)(HU:Ci K "MOST_FLAGS" 8)(Pd:Ci K "UNKNOWN_SIDE" 2)(Pe:Ci K "UNSEEN_SHAPE" 3)(Pf:Ci K "UNSEEN_CELL" 16)(HV:Ci K "SIDE_LINE" 0)(HW:Ci K "HOIST_LINE" 1)(Ph:Ci K "SHAPE_LINE" 2)(Pi:Ci K "CELLS_LINE" 3)(Pj:Ci K "NO_SUCH_LINE" 1)(Pk:Ci K "WRONG_PLACE" 2)(Pl:Ci K "TITLE_LINES" 2)(Pn:Ci K "MOST_ENTRIES" 2048)(Po:Ci K "LONGEST_MEANING" 64)(Pp:Ci K "FULL_STOP" 46)(Pq:Ci K "LAST_PRINTED" 126)(Pt:Ci K "MOST_IN_DOUBT" 1024)(Pu:Ct K "COLOUR_SIGNS" "0123456789abcdef")(Pw:Ct K "NAME_SIGNS" "ABCDEFGHIJKLMNOPQRSTUVWXYZ0123456789")(Px:Ct K "SEEN_SIGNS" "0123456789abcdef?")(Py:Tu K "SHAPES" ((["square","tails","long"]:LS).M V.str))(Pz:Tu K "ROLES" ((["sign","same","answer"]:LS).M V.str))(PB:Tu K "SIDES" ((["front","behind","unknown"]:LS).M V.str))(PD:Tu K "HOIST_LINES" ((["hoist","hoist above","hoist below","hoist above below"]:LS).M V.str))(PF:Tu K "SEEN_SHAPES" ((["square","tails","long","shape?"]:LS).M V.str))(PJ:Tu K "WORDS_OF_ROLES" [.int 5,.int 5,.int 4])(PK:Ab K "ord")(J:Ab K "enumerate")(U:Ab K "all")(HX:Ab K "any")(j:Ab K "len")(zb:Ab K "range")(HY:Ab K "sum")(HZ:Ab K "dict")(PL:Ab K "zip")(Ia:Ab K "list")(DW:Ab K "max")(Ib:Ab K "min")(Ic:Ab K "tuple")(PM:Ab K "Exception")(PN:Ab K "sorted")(PP:Ab K "set")(aM:PySem.W.nsIn K mainGlobals "entries"=Α (some (.ref fM))) (lM:K.Q fM=Α ⟨ocM,odM,.func (PySem.W.fnOf "entries" "entries" (uK qw) (i6 qw) (aY qw) .none kVM dcM pmM anM (.ref cM) ctM),slM⟩) (oM:PySem.W.codeIn K (.ref cM) "entries"=true) (kM:PySem.W.keepIn K (.ref fM)=true)(lC:K.Q cM=Α ⟨.type "code",odC,.fields #[v0,v1,v2,v3,v4,v5,v6,.int fl tf,v8,.bool bb,.int tx tt,.ref TM,yo,Ks,Ku,Kw,Kx,Ky,.str xs ts],slC⟩) (Y0:(cM==TM)=false) (nT:K.Q TM=Β) (nd:[CN,CB,nr,CT].Nodup):
  ∃(fd:FD)(o:Obj)(c T:Addr),K.Q fa=Α o/\o.data=.func fd/\fd.code=.ref c/\Cp K c T/\K.Q T=Β/\(∀(s:Sh)(Z:LV),Z.L=(["j","t","b","p"]:LS).L->BindsTo s fd ⟨Z,[]⟩ ((["j","t","b","p"]:LS).zip Z))/\
   ∀base:Heap,K.In base->base.Ns mainGlobals mg->yj mg base->Ì aF 9 fa fd ["j","t","b","p"] (Ov K T):=by
 let e:=hfa.symm.R (PySem.W.mg_of X G aM);cases e;let O5:=O5.cn X G;let HN:=HN.cn X G;let HP:=HP.cn X G;let HQ:=HQ.cn X G;let O6:=O6.cn X G;let HR:=HR.cn X G;let y9:=y9.cn X G;let O7:=O7.cn X G;let za:=za.cn X G;let HS:=HS.cn X G;let O8:=O8.cn X G;let O9:=O9.cn X G;let Pa:=Pa.cn X G;let Pb:=Pb.cn X G;let Pc:=Pc.cn X G;let HU:=HU.cn X G;let Pd:=Pd.cn X G;let Pe:=Pe.cn X G;let Pf:=Pf.cn X G;let HV:=HV.cn X G;let HW:=HW.cn X G;let Ph:=Ph.cn X G;let Pi:=Pi.cn X G;let Pj:=Pj.cn X G;let Pk:=Pk.cn X G;let Pl:=Pl.cn X G;let Pn:=Pn.cn X G;let Po:=Po.cn X G;let Pp:=Pp.cn X G;let Pq:=Pq.cn X G;let Pt:=Pt.cn X G;let Pu:=Pu.cn X G;let Pw:=Pw.cn X G;let Px:=Px.cn X G;let Py:=Py.tn X G;let Pz:=Pz.tn X G;let PB:=PB.tn X G;let PD:=PD.tn X G;let PF:=PF.tn X G;let PJ:=PJ.tn X G;let PK:=PK.z X G;let J:=J.z X G;let U:=U.z X G;let HX:=HX.z X G;let j:=j.z X G;let zb:=zb.z X G;let HY:=HY.z X G;let HZ:=HZ.z X G;let PL:=PL.z X G;let Ia:=Ia.z X G;let DW:=DW.z X G;let Ib:=Ib.z X G;let Ic:=Ic.z X G;let PM:=PM.z X G;let PN:=PN.z X G;let PP:=PP.z X G;let m:ma K ⟨CS,CG,CP⟩:=⟨HM.c,DS.c,DT.c,HM.no Ä,HM.no Ä,DS.no Ä,DS.no Ä,DS.no Ä,DT.no Ä,DT.no Ä,DT.no Ä⟩;let O:tI K CK:=⟨Y.c,Y.no Ä,Y.no Ä,Y.no Ä,Y.no Ä,Y.no Ä,Y.no Ä⟩;let TL:LkT K CL:=⟨Bb.c,Bb.no Ä,Bb.no Ä⟩;let XN:ϓ "NoLocker" CN NN:=⟨O1.c,ap5,PySem.W.mg_of X G O1.a,O1.k⟩;let XB:ϓ "NoBook" CB NB:=⟨O2.c,ap6,PySem.W.mg_of X G O2.a,O2.k⟩;let XT:ϓ "TooMuchInDoubt" CT NT:=⟨O3.c,ap7,PySem.W.mg_of X G O3.a,O3.k⟩;let XP:F5 K mg nr NP:=⟨O4.c,⟨y1,aoO⟩,⟨y2,aoP⟩,PySem.W.mg_of X G O4.a,O4.k⟩;apply(_,_,cM,TM,lM,Á,Á,Uq lC Y0,nT,λs Z hu=>.of_eq (DR (R:=λZ=>bindArgs _ ⟨Z,[]⟩=pure (_:List (Str×Value))) (λ_ _ _ _=>Á) Z hu),λbase _ _ hb=>?_);let PQ:=ao5.dn P w base X G λf fd F=>ahj F PK;let zc:=ao6.dn P w base X G λf fd F=>ahm F;let(fS,yr,GS,mS,kS,bS):=id PQ;let PR:=ao8.dn P w base X G λf fd F=>ahp F J GS mS kS bS;let PU:=ao9.dn P w base X G λf fd F=>ahs F U GS mS kS bS;let(fP,LX,GP,mP,kP,bP):=id PU;let(uC,mC,rC):=Pu;let Y1:=apa.dn P w base X G λf fd F=>ahu F j mC rC GP mP kP bP;let Y2:=apb.dn P w base X G λf fd F=>aih F j O7 Pw PU;let Y3:=apc.dn P w base X G λf fd F=>aij F j y9 zc PQ Y2;let Y4:=ao7.dn P w base X G λf fd F=>ail F HR zc;let Y5:=HM.mk' P w base X G λ_ _ _ _ _ _ _=>aD Ĵ (aE ĳ);let dMG:=DS.mk' P w base X G λ_ _ _ _ _ _ _=>aD Ĵ ό;let dMP:=DT.mk' P w base X G λ_ _ _ _ _ _ _=>aD Ĵ ό;let dMK:=Y.mk' P w base X G λ_ _ _ _ _ _ _=>aD Ĵ (aD ĳ (aD (fg Ú ú rfl) (aD (fg Ú ĸ rfl) (aD (fg Ú Äl rfl) (aE (fg Ú Ãr rfl))))));let dML:=Bb.mk' P w base X G λ_ _ _ _ _ _ _=>aD Ĵ (aE ĳ);let dMV:=OZ.mk' P w base X G λ_ _ _ _ _ _ _=>aD Ĵ (aE ĳ);let dMQ:=DU.mk' P w base X G λ_ _ _ _ _ _ _=>aD Ĵ ό;let dME:=DV.mk' P w base X G λ_ _ _ _ _ _ _=>aD Ĵ (aE ĳ);let dMB:=O0.mk' P w base X G λ_ _ _ _ _ _ _=>aD Ĵ (aE ĳ);let dMR:=YY.mk' P w base X G λ_ _ _ _ _ _ _=>aD Ĵ ό;let dMF:=YZ.mk' P w base X G λ_ _ _ _ _ _ _=>aD Ĵ (aD ĳ (aD (fg Ú ú rfl) (aE (fg Ú ĸ rfl))));let dRN:=ape.dn P w base X G λf fd F=>aip F XN Y2;let dRD:=apf.dn P w base X G λf fd F=>air F j XN Pb;let dRK:=apg.dn P w base X G λf fd F=>aiu F j XN y9 Pz PJ za HS O9 O8 Py zc PR dRN dRD Y1 dMK;let dHT:=apk.dn P w base X G λf fd F=>aiR F HX J;let aqm:=api.dn P w base X G λf fd F=>aiT F O za;let dOr:=aph.dn P w base X G λf fd F=>aiV F O j U J za Pa aqm;let dDi:=apj.dn P w base X G λf fd F=>aiY F O za dHT;let dRL:=apd.dn P w base X G λf fd F=>ai0 F XN Y4 Y3 dRK dOr dDi dML;let aqq:=apo.dn P w base X G λf fd F=>ahz F j HQ Px PU;let aqr:=apn.dn P w base X G λf fd F=>ahA F j y9 PB zc PQ PR Y1;let aqs:=apm.dn P w base X G λf fd F=>ahE F J PD PF aqr PR aqq;let PV:=apr.dn P w base X G λf fd F=>ahK F m;let Y6:=aps.dn P w base X G λf fd F=>ahN F m j HP PV;let dWh:=apt.dn P w base X G λf fd F=>ahP F m PV Y6;let aqu:=apq.dn P w base X G λf fd F=>ahR F m j HV HW Pi Pc HU PV Y6;let aqv:=apu.dn P w base X G λf fd F=>ahZ F m HV HW Ph dMG Y5;let(gN,U0,n1,n2,FN):=y3;let dNp:UW P w K mg base nr NP:=⟨_,_,XP,n1,n2,ah7 FN XP PM nz,FN.binds λ_ _ _ _ _ _=>OY λ_ _ _=>rfl⟩;let dRP:=apl.dn P w base X G λf fd F=>aia F m j J HR Pj Pk zc dMP dNp aqs aqu aqv dWh;let dBh:=ao3.dn P w base X G λf fd F=>ajM F HQ;let dCS:=ao4.dn P w base X G λf fd F=>ajN F zb HN HP dBh;let dSO:=apv.dn P w base X G λf fd F=>ajP (C:=⟨CS,CG,CP⟩) F O Y5 dCS;let aqB:=apz.dn P w base X G λf fd F=>ajQ F m U J Pe Pf;let dKS:=apy.dn P w base X G λf fd F=>ajS F J aqB;let dKA:=apx.dn P w base X G λf fd F=>ajU F m dKS;let dVO:=apw.dn P w base X G λf fd F=>aj1 F m dMV dSO dKA;let dFA:=apC.dn P w base X G λf fd F=>aj4 F U J;let dHF:=apB.dn P w base X G λf fd F=>aj5 F m j HX zb dFA;let dFi:=apA.dn P w base X G λf fd F=>aj7 F m OZ.t U J dHF;let dBS:=apG.dn P w base X G λf fd F=>aka F O HY J;let dSA:=apF.dn P w base X G λf fd F=>akd F j zb dBS;let dPO:=apJ.dn P w base X G λf fd F=>ake F j;let dCI:=apK.dn P w base X G λf fd F=>akf F O HY J;let dLa:=apE.dn P w base X G λf fd F=>akg F O HZ;let dPf:=apH.dn P w base X G λf fd F=>akp F PL;let aqO:=apI.dn P w base X G λf fd F=>akv F DU.t j Ia zb DW dMQ dPO dCI;let dHa:=apN.dn P w base X G λf fd F=>akK F DU.t J DW Ib;let dFT:=apM.dn P w base X G λf fd F=>akP F DU.t j zb dHa;let aqR:=apL.dn P w base X G λf fd F=>akV F J dFT;let Y7:=apD.dn P w base X G λf fd F=>ak6 F O DU.t Ia J Ib HS dLa dSA dPf aqO aqR;let dRM:=apS.dn P w base X G λf fd F=>alk F j U XB Po y9 Pq zc;let dNu:=apP.dn P w base X G λf fd F=>alq F O HZ Ic J za;let aqU:=apR.dn P w base X G λf fd F=>alu F j Ic XB HU Pp zc;let aqV:=apQ.dn P w base X G λf fd F=>alx F XB y9 dME aqU dRM;let dOB:=apT.dn P w base X G λf fd F=>aly F DV.t j U J;let dCB:=apU.dn P w base X G λf fd F=>alz F DV.t U Y7;let dRB:=apO.dn P w base X G λf fd F=>alF F XB Bb.t j Pl Pn Y4 Y3 dNu aqV dOB dCB dMB;let dED:=apW.dn P w base X G λf fd F=>alM F m O0.t DV.t j J;let dPr:=apX.dn P w base X G λf fd F=>alN F;let dSd:=apZ.dn P w base X G λf fd F=>alP F m O5 HN Pd;let dAR:=apY.dn P w base X G λf fd F=>alW F;let dRe:=apV.dn P w base X G λf fd F=>al9 F XT m Bb.t O0.t DV.t OZ.t j Pt dED dPr dVO dSd dAR Y7 dFi dMR;let dFo:=ap2.dn P w base X G λf fd F=>amD (k:=⟨⟨CS,CG,CP⟩,CL,CK,fm,CE,CR,CF⟩) F dRL dRB dRP dRe dMF;let dNt:=ap4.dn P w base X G λf fd F=>amR (k:=⟨⟨CS,CG,CP⟩,CL,CK,fm,CE,CR,CF⟩) F YZ.t m YY.t j PP PN;exact amV (nV (st:=qw) lM oM kM) Á (Uq lC Y0) hb λ_ _=>ap1.dn P w base X G λf fd F=>amI (k:=⟨⟨CS,CG,CP⟩,CL,CK,fm,CE,CR,CF⟩) F XN XB XP XT nd j DW O6 dFo (amT (pm:=(mg "__name__").D .none) dNt)
end HD
section
open PySem.W (Codec)
open PySem PySem.W PyProof.Rows HD
set_option maxRecDepth 100000 in
set_option maxHeartbeats 0 in
theorem PySem.Challenge.cw_halfseendesk_s05_entries_holds : PySem.Challenge.rw_halfseendesk_s05_entries.Holds := by
 refine PySem.W.holds_os (q:=kQ) (loose:=kL) (Xt:=kX) (XP:=PySem.W.XL kQ []) (Yf:=PySem.W.Hook.obs ş) (Ya:=PySem.W.Hook.val ş) (YP:=PySem.W.Hook.says ş) (N:=11214) aae (PySem.W.Hook.of ş) (PySem.W.Hook.keeps ş) (λs e=>PySem.W.xl_of s (vO.mp e).1) PySem.W.XL.keeps Ò Ò Ò (λs e=>PySem.W.recFacts_of (vO.mp e).2) PySem.W.os_shapes È È ⟨Á,Á,Á,Á,Á,by decide+kernel⟩ ⟨[.int 0,.list [],.list [],.list []],by decide+kernel,by decide+kernel⟩ ?hc;let g0:(QG,kK)=(QG,kK):=by
  k_fill
  rfl
 refine L2.agS (r:=PySem.Challenge.rw_halfseendesk_s05_entries) (k:=9) (CX:=L2.aF) (ps:=["j","t","b","p"]) (sp:=Ov) È Á Á ⟨Á,by decide,by decide⟩ (λw h Y=>PySem.W.kIn_of Y) (by kernel_rfl) ?F ?S (λ_ _ _ _ z=>z)
 case F=>
  intro w mg fa h Y KX G FM;exact all_mk KX G FM dfk dfk dfk dfk dfk dfk dfk dfk dfk dfk dfk dfk dfk dfk dfk dfk dfk dfk dfk dfk dfk dfk dfk dfk dfk dfk dfk dfk dfk dfk dfk dfk dfk dfk dfk dfk dfk dfk dfk dfk dfk dfk dfk dfk dfk dfk dfk dfk dfk dfk dfk dfk dfk dfk dfk dfk dfk dfk dfk dfk dfk Æ Æ Æ Æ Æ Æ Æ Æ Æ Æ Æ ⟨by k_is,⟨HJ (by k_is) (by k_is) Ä,by k_is,by k_is,by k_is⟩,by k_is⟩ (by k_is) ⟨by k_is,⟨HJ (by k_is) (by k_is) Ä,by k_is,by k_is,by k_is⟩,by k_is⟩ (by k_is) ⟨by k_is,⟨HJ (by k_is) (by k_is) Ä,by k_is,by k_is,by k_is⟩,by k_is⟩ (by k_is) ⟨by k_is,⟨HJ (by k_is) (by k_is) Ä,by k_is,by k_is,by k_is⟩,by k_is⟩ (by k_is) (by k_is) ⟨_,_,by k_is,by k_is,L2.nV (by k_is) (by k_is) (by k_is)⟩ (by k_is) gj gj gj gj gj gj gj gj gj gj gj gj gj gj gj gj gj gj gj gj gj gj gj gj gj gj gj gj gj gj gj ⟨_,by k_is⟩ ⟨_,by k_is⟩ ⟨_,by k_is⟩ ç ç ç ç ç ç mi mi mi mi mi mi mi mi mi mi mi mi mi mi mi mi
   (by k_is) (by k_is) (by k_is) (by k_is) (by k_is) Ò (by kernel_rfl) Ù
 case S=>
  intro K T H xs a hT uV atZ hx;let(j,t,b,p,u):=a;rcases hx with _|⟨h0,hx⟩;cases h0;cases hx with
  |cons h1 h2=>
   cases h2 with
   |cons h3 h4=>
    cases h4 with
    |cons h5 h6=>
     cases h6;cases h1 with
     |lst s1 a1=>
      cases h3 with
      |lst s2 a2=>
       cases h5 with
       |lst s3 a3=>
        let e:=L2.Kg t _ a1;subst e;let e:=L2.Kg b _ a2;subst e;let e:=L2.Kg p _ a3;subst e;let q:(Codec.inInt 0 18446744073709551615 j&&((Codec.inLen 0 66000 t&&t.all Ál)&&((Codec.inLen 0 66000 b&&b.all Ál)&&((Codec.inLen 0 66000 p&&p.all Ál)&&true))))=true:=uV;simp only[jq] at q;let(q0,(q1,q2),(q3,q4),(q5,q6),_):=q;let t8:JM.bf t:=OX q2;let b8:JM.bf b:=OX q4;let p8:JM.bf p:=OX q6;obtain⟨i,rfl⟩:∃n:Nat,j=(n:Int):=⟨Int.toNat j,(ar5 (Codec.inInt_iff.mp q0).1).symm⟩;let(m1,m2):=aoM i t8 b8 p8;apply(i,_,_,_,t,b,p,Á,hT,s1,s2,s3,(Z3.mp q1).2,(Z3.mp q3).2,(Z3.mp q5).2,λx e=>anS t8 e,λm e=>aoq p8 e,λz hz H' r hr=>?_,λhz x y m e1 e2 e3=>⟨⟨λz h9=>(by let(a,c):=aoJ z h9;rw[az] at c;exact(a,c)),oN (Nat.succ_le_succ (gS aoK (aoL hz e1 e2 e3))) Ù⟩,λH' r hr=>?_⟩)
        .show L2.Dw K H' _ (.list ((PyWqbada.entries (i:Int) t b p).M .int));rw[m1 z hz];exact .lst (L2.aa.of hr) (L2.Uc [z])
        .show L2.Dw K H' _ (.list ((PyWqbada.entries (i:Int) t b p).M .int));rw[m2 hz x y m e1 e2 e3];exact .lst (L2.aa.of hr) (L2.Uc _)
#print axioms PySem.Challenge.cw_halfseendesk_s05_entries_holds
end
