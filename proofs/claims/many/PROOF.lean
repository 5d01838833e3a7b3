import PyProof.Rows.All
import PyProof.ExcClass
import PyProof.InstLoad
import PyProof.InstStoreFacts
import PyProof.ExcAttrAll.Exception
import PyProof.RaisesMany
import PyProof.Commute
import PyProof.StationsW
import PyProof.Draws
import PyProof.EnumMake
import PyProof.TupleIter
import PyProof.WalksMore
import Wide.All
import OpenK.AllK
import Wide.FinOn
import PyProof.EqAt
import PyProof.EqKinds
import PyProof.TupleCall
import KE.BitLaws
import PyProof.ExcBaseAll.Exception
import PyProof.RulesAs
import PyProof.NsDelKeeps
import PyProof.NeKinds
import KE.KDictLaws
import Open.SpecLaws
import KE.OsHead
import KE.OsGo
import PySem.Challenge.RW_halfseendesk_s03_many
import PyWqbada
set_option Elab.async false
set_option linter.all false
set_option maxRecDepth 100000
set_option maxHeartbeats 2000000
set_option bootstrap.genMatcherCode false
set_option genSizeOf false
set_option genSizeOfSpec false
set_option compiler.extract_closed false
namespace MP_
open Lean
def mI(s:String):Syntax:=mkIdent (s.splitOn "."|>.foldl (λn c=>.str n c) .anonymous)
def mS(f:String)(l:List Syntax)(r:String)(k:Name):Syntax:=.node .none k #[mkAtom f,mkNullNode ((l.intersperse (mkAtom ",")).toArray),mkAtom r]
def nT:String→Name:=.str `Lean.Parser.Term
def mP(f:Syntax)(a:Array Syntax):Syntax:=.node .none (nT "app") #[f,mkNullNode a]
def mA:List Syntax→Syntax
|[x]=>x
|l=>match l.reverse with|f::a=>mP f a.toArray|_=>.missing
def mW(w:String):Syntax:=if w="_" then .node .none (nT "hole") #[mkAtom w] else if w="?_" then .node .none (nT "syntheticHole") #[mkAtom "?",mkAtom "_"] else if w.front.isDigit then Syntax.mkNumLit w else if w.front='.' then .node .none (nT "dotIdent") #[mkAtom ".",mI (w.drop 1).toString] else mI w
def mG:List String→List Syntax→List Syntax→List (List Syntax×List Syntax)→Syntax
|[],_,c,_=>mA c
|w::r,p,c,s=>if w="("||w="⟨"||w="[" then mG r [] [] ((p,c)::s)
 else if w="," then mG r (mA c::p) [] s
 else if w=")"||w="⟩"||w="]" then
  let l:=(if c.isEmpty then p else mA c::p).reverse
  match s with|(p,d)::s=>mG r p ((if w=")" then mA c else if w="⟩" then mS "⟨" l w (nT "anonymousCtor") else mS "[" l w `«term[_]»)::d) s|_=>.missing
 else mG r p (mW w::c) s
def mT(t n:String):Option Syntax:=(t.splitOn ";").findSome? λe=>if e.startsWith (n++" ") then some (match (e.drop (n.length+1)).toString.splitOn " => " with|[b,x]=>.node .none (nT "fun") #[mkAtom "fun",.node .none (nT "basicFun") #[mkNullNode ((b.splitOn " ").map mW).toArray,mkNullNode,mkAtom "=>",mG (x.splitOn " ") [] [] []]]|x=>mG ((x.headD "").splitOn " ") [] [] []) else none
def tb:="À aG A outer s H vs Q E hr h => ?_;Á Inv X pins σ;Å Dn P w K mg base aE;Æ model X.prog X.w;Ê a8 P w K mg base;Ë ks.map az.m;Ì aD ( jL hr.hd X.c ( m3 X.c X.m7 X.keep rfl X.mC ) );Í hc => ?_;Î X.gc s H scope ( compEnvC scope cl C X.env ) fp;Ï l.kinds.map az.m;Ð model prog w;Ó _ _ _ _ _ => eI;Õ _ _ => rfl;Ù pv 0;Ú b.es.map bp.row;Ü ⟨ Tt , _ , rfl , bu.of ao , rfl , _ , _ , rfl , _ , _ , rfl , rfl , rfl , eJ ?_ ⟩;Ý rK PySem.F.plainAttrs_list PySem.F.slot_list_append PySem.F.type_list_append yC;Þ .ListComp jZ [ ⟨ tg , iter , jo , 0 ⟩ ] scope pos;ß aa K H;à .lst [ ];á pv 1;â aV left;ä ⟨ Tt , _ , rfl , bu.of ao , rfl , _ , _ , rfl , _ , _ , rfl , rfl , rfl , ?_ ⟩;è pv 2;ê .dK ( bx V.int lacks );ë bj Ù rfl;ï p.ak.map cg.m;ð EP X pins σ;ñ ae Ù ag;ò c9 sames;ó excClassObj nm q C N bs bm true sn sub ab col dd k0 k1 k2 k3 k5 newId;ô starEach es X.env;õ pv 3;ö eT rows ( fw ms rows );ø H' f => ?_;ù c6 f7 Ò tL PySem.boot_len ( ae á ag );ú .lst ( gB.map V.ref );û jA.map codes;ü cj sames;ý .ref C;þ a8 X.prog X.w X.K X.mg X.base CX k f;ÿ m6 P w K mg base;Ā fX I q Â;ā eU X.prog X.w;Ă c6 f7 Ò tL PySem.boot_len ñ;ă I.ok.hd hc;Ą .inl rfl;ą .ref f;Ć Dn P w K mg base;ć cw.zero hD;Ĉ upd H1 D à;ĉ i y H' hi f => ?_;Ċ b hb => ?_;ċ c6 f7 Ò tL PySem.boot_len ( ae è ag );Č .lst ( qs.map V.ref );č .dK kvs;Ď ⟨ _ , rfl , ?_ ⟩;ď iL x.zs bits;Đ bc lf l s;đ excClassObj nm q C N bs bm hdct sn sub ab col dd k0 k1 k2 k3 k5 newId;Ē Flags.less1 left f;ē gf P w;Ĕ eM classes;ĕ PySem.W.fnOf x cY ( tq st ) ( i9 st ) ( a7 st ) .none kV iO pm an aG ct;Ė hd => ?_;ė X.gc s3 H3 scope ce fp;Ę .bool true;ę fj sames.length ü â Û D;Ě .ref a;ě upd H s.heap.objs.size;Ĝ iW K s₁.heap;ĝ ⟨ rfl , _ , rfl , ?_ ⟩;Ğ compEnvC scope cl s3.heap.objs.size X.env;ğ bj á rfl;Ġ bj ( cA cQ ë ( js j9 bh ) Õ ) rfl;ġ PySem.W.kHook HD.kK HD.kA HD.kE;Ģ .ref p;ģ cj sames b;Ĥ .dK ( bx gA tt );ĥ aX ms;Ħ w.map B;ħ I.ax.fresh ( bO _ );Ĩ .Tuple mr kk lS;ĩ wR X.N X.env.scope scope;Ī ki CX P w K mg base N cY;ī s2.trans s3;Ĭ e9 Ù è rfl;ĭ e9 Ù á rfl;Į eO P w H;į DQ TN.c iN Ey TN.keep GN rT rfl TN.mC;İ _ => aD ( aZ ( eG ( ae ( js j9 bh ) ag ) ) );ı pv 4;Ĳ ae õ ag;ĳ eG ag;Ĵ b z => absurd z Â;ĵ l.map B;Ķ .ref s.heap.objs.size;ķ wipe σ vs;ĸ ai.refl H';Ĺ PySem.W.instObj C s.heap.objs.size;ĺ A.deeper ( envOfC cY ( a7 st ) s.heap.objs.size f aG );Ļ σ.set i ( some v );ļ bw JM.il line;Ľ bw JM.ik line;ľ lJ X pins;Ŀ sames.getD i 0;ŀ sames.getD b 0;Ł past.map bU;ł p9 C h.objs.size;Ń kp p hp;ń fw ms rows;Ņ aV ( jn ms );ņ .lst ( iv l );Ň .int 0;ň putK kvs k;ŉ i x Tt H' hi f hT => ?_;Ŋ ws.getD 1 [ ];ŋ upd H1 pl ú;Ō iv p.classes;ō ki aE P w K mg base;Ŏ exc C none .none x;ŏ Builtin.bitAnd i j;Ő ⟨ _ , rfl , rfl , _ , rfl , ?_ ⟩;ő some Ę;Œ ae á ag;œ ae ( cA cQ á bh Õ ) ag;Ŕ ⟨ rfl , ?_ ⟩;ŕ start N vs;Ŗ ay 3;ŗ ay 2;Ř .dK ( bx gI ( gn y.m.flatten ) );ř y => PyData.eqv ( dataOf ( aj.zip ds ) y ) dx;Ś b o nb nf g => ?_;ś ms.map ( oo classes d );Ŝ .int 1;ŝ Binds X.K fd ps;Ş codes x;ş b.map B;Š mO pZ rfl;š h1 => ?_;Ţ ns.map V.int;ţ ae è ag;Ť ae ( pv 5 ) ag;ť bu K H;Ŧ upd H a;ŧ bo L.pl T.cP T.m5;Ũ w hw => AF rx fx r fs w Ç;ũ ent ( rawInt L ) T;Ū .ref x;ū .ref T;Ŭ upd ( Ŧ ( exc C od ū a ) ) T ũ;ŭ u5 P w K mg base A outer s;Ů refusal t b;ů oq CK H pk;Ű iU X.env.cells scope.names;ű y.m.take i;Ų y.m.map List.length;ų vs.map toV;Ŵ nF ms rows;ŵ mh Ï p.m;Ŷ envOfC cY scope s.heap.objs.size f cd;ŷ c6 f7 Ò tL PySem.boot_len ( ae ë ag );Ÿ ai.refl H;Ź aD ( aZ qf );ź aB Ĭ ( aD ( e9 Ù õ rfl ) );Ż .lst ( iv ( nv x.ns ) );ż .ck od ê;Ž .bool ( lexLt ns ms );ž .Name x p;ſ wpAny M A;ϊ lZ K mg;ϋ .ck od u;ό .builtin id;ύ ia K;ώ ay 0;Ϗ ⟨ _ , rfl , rfl , _ , rfl , ite_yes rfl ?_ ⟩;ϐ b o hb e => eb b o hb e;ϑ uk.map codes;ϒ t.map B;ϓ p.map B;ϔ ms.getD i fg;ϕ fU ( i8 ( di e ) ( I.ok.yk x c He hc ) );ϖ ay 1;ϗ .lst ( iv ( line.take j ) );Ϙ .ins C dx fs;ϙ .Compare a [ op ] [ b ] pos;Ϛ upd H l;ϛ upd H T;Ϝ HT.lexLt ns ms;ϝ PE X e;Ϟ xs.map PyData.int;ϟ ps.zip us;Ϡ upd H' Tt;ϡ n9 H H' p;Ϣ pO ms m.classes d m.ak;ϣ ae ı ag;Ϥ I.base.free b o e n hx;ϥ .ck o č;Ϧ jl x.zs p.fu bits;ϧ gw K C;Ϩ PE X a;ϩ Inv X pins σ' H';Ϫ e K q => ?_;ϫ xb hr.units;Ϭ v.gs.map b9.m;ϭ sm b;Ϯ ae ( b7 cB ) ag;ϯ PySem.mem_of_lookup e;ϰ .tup xs;ϱ .lst xs;ϲ keywordEach [ ] X.env;ϳ jt ( A9 hr.units ) ë ĳ ( bT _ );ϴ i8 ( di e ) I.ok.above;ϵ Flags.lacks left ( l.map ò ) s;϶ .lst ( iv ( nv sames ) );Ϸ .Name x pos;ϸ b hb u hu => ?_;Ϲ nE sames left;Ϻ fm X.prog X.w;Àa eO X.prog X.w;Àb _ _ p => Bool.noConfusion p;Àc Ī scope f aG A outer s H E;Àd ws.getD 0 [ ];Àe importedModules P.main.body;Àf eval e X.env;Àg uW I hg hm;Àh model P w;Ài bj è rfl;Àj Cd L ms classes;Àk z.m.take i;Àl d8 p.eA sg ⟨ D , ď same ⟩;Àm cA cQ è bh Õ;Àn .ref y.a;Ào .error e;Àp .dK [ ];Àq compEnvC scope cl C X.env;Àr I.base.keep b o e n hb hx;Às fm P w H h a;Àt aa X.K H;Àu upd H2 D à;Àv s1.trans s2;Àw past.map nG;Àx nv ( List.range G );Ày fs.lookup f;Àz Codec.inInt 0 255;Áa upd H x;Áb br K x cY st f;Ác eE C p;Ád compareOp .Eq;Áe .ref D;Áf ⟨ ?_ , ?_ ⟩;Ág i v Tt H' hi f hT => ?_;Áh h2 => ?_;Ái _ _ _ _ _ => dv 8 ox.nd;Áj r.map ò;Ák js j9 bh;Ál jm rows x;Ám compareOp .NotEq;Án a7 st;Áo .int i t;Áp y hy => ?_;Áq x hx => ?_;Ár l x ih => ?_;Ás c v hc q => k c v ?_ q;Át zP ( i9 pA );Áu upd H0 pl ż;Áv t.map cont;Áw some ą;Áx ps.map V.ref;Áy ft.zero hD;Áz bc â Û s;Âa aD ( aZ yn );Âb .lst ys;Âc .ins C dx [ ];Âd i H' hi f => ?_;Âe .tup ( k.map kV );Âf p9 C s.heap.objs.size;Âg i => bs.getD i false;Âh b o e nb => ?_;Âi ku Ò tE ñ;Âj kHook kK kA kE;Âk h pins s σ H Q I hw;Âl eU P w;Âm dec lf s;Ân bg Ŗ du;Âo TP X pins σ Q;Âp PySem.W.instObj C dx;Âq .ref p.a;Âr .int i;Âs iv part;Ât .ref it;Âu .dT kvs;Âv b => sames.getD b 0;Âw _ v x _ => ?_;Âx es.map bp.row;Ây ⟨ _ , _ , rfl , rfl , ?_ ⟩;Âz b => pj.contains b;Ãa b => kC.contains b;Ãb _ _ _ _ => trivial;Ãc upd H' d u;Ãd rY CL CK l;Ãe pv 6;Ãf name.map B;Ãg ma rows ń;Ãh cw.zero cE;Ãi ay 4;Ãj I1.ax.fresh ( bO _ );Ãk I.AV hd mu;Ãl .ref r;Ãm .lst ( iv ( nv row ) );Ãn ⟨ I1.fW , ?_ ⟩;Ão l s ih => ?_;Ãp iH => ?_;Ãq _ => rfl;Ãr _ _ => False;Ãs _ _ _ _ _ => pv 2;Ãt upd H0 d Àp;Ãu tC Ň;Ãv setAttr Ū name v;Ãw qs.map V.ref;Ãx pv 5;Ãy oG CE e;Ãz ms.map PyData.int;Äa looseW kQ kL;Äb jk Ë y.m.flatten;Äc g i j;Äd eval o X.env;Äe eN q hn;Äf dec â s;Äg compareOp op;Äh ae ĳ ag;Äi Av X pins σ tg R;Äj .ref z.a;Äk .ref lb;Äl .ref la;Äm va rfl;Än some v;Äo eU prog w;Äp dec lf ϭ;Äq Builtin.bitNot i;Är .ref l;Äs .own x;Ät .ck uz Ĥ;Äu upd H e1 à;Äv tC Ŝ;Äw s1.trans s3;Äx p.eA.map gH;Äy ls.map eC.m;Äz i9 st;Åa eV Ù;Åb dJ aQ;Åc b.ns.take j;Åd SP X pins D;Åe b o e => dh _ e;Åf pv 7;Åg places.getD i 0;Åh m4 p;Åi gh C;Åj cA yz Ãe bh Õ;Åk cA cQ á Ák Õ;Ål .dK ( tX [ ] kvs );Åm pN CV v;Ån jJ D Nx;Åo iv line;Åp c.map B;Åq .tup ys;År .int 32;Ås q hq => ?_;Åt m hm => ?_;Åu b o nb g => ?_;Åv H3 f => ?_;Åw H2 f => ?_;Åx upd H d ϋ;Åy uo È;Åz tJ s₁.heap H;Æa s1.free hx;Æb rawInt L;Æc oA ms rows;Æd nU ( qg è );Æe lh x;Æf l.map ò;Æg hb 0 v0 Ä rfl;Æh gh C g;Æi eV á;Æj eT y.m z.m;Æk eQ y;Æl cA cQ Ù bh Õ;Æm bc lf Û s;Æn bQ r ta tb;Æo b7 cS;Æp ae ë ag;Æq aD ( aZ è );Ær L.getD b 0;Æs K w.params;Æt I1.ax.fresh j0;Æu I.lH x c e;Æv .tup [ x , y ];Æw .str x;Æx .ref b.a;Æy .lst o;Æz .inr rfl;Ça .dT ( qA [ ] ts );Çb y.m.getD i [ ];Çc tupleKind Âl;Çd iv ( nv e.row );Çe exc C od ū a;Çf compareOp .Lt;Çg .tup [ kV k , v ];Çh topStub P;Çi sG p.side;Çj ns.take i;Çk ms.map qG;Çl iv ( nv l );Çm e.trans z;Çn cj ĥ;Ço bY hb;Çp ae Ài ag;Çq aK he;Çr .ck od Ř;Çs ⟨ t1 , t2 , ?_ ⟩;Çt j q' e => ?_;Çu xs.map V.int;Çv xm.map codes;Çw upd H2 d Ät;Çx upd H' pl ê;Çy tupleKind ā;Çz some u;Èa n.map B;Èb ms.getD f fg;Èc eM m.classes;Èd bg ( ay 5 ) du;Èe bc lf Û s g;Èf ay 7;Èg List.range n;Èh .ref q;Èi .ref e;Èj .ref d;Èk .ref ap;Èl .ck o u"
def mX(x:Syntax)(a:Array Syntax):MacroM Syntax:=let n:=x.getId.toString;if n.front.toNat>191 then match mT tb n with
|some s=>pure (if a.isEmpty then s else if s.isOfKind (nT "app") then mP s[0] (s[1].getArgs++a) else mP s a)
|_=>Macro.throwUnsupported else Macro.throwUnsupported
end MP_
local macro_rules(kind:=ident)|x=>MP_.mX x #[]
local macro_rules(kind:=Lean.Parser.Term.app)|x=>MP_.mX x[0] x[1].getArgs
set_option hygiene false
local macro_rules
|`(Â)=>`(by simp)
|`(Ã)=>`(⟨by k_is,⟨_,_,⟨by k_is,by k_is,by k_is,by k_is⟩,L2.mY (by k_is) (by k_is) (by k_is)⟩,⟨by k_is,by k_is,by k_is,by k_is⟩,by kernel_rfl⟩)
|`(Ä)=>`(by omega)
|`(Ç)=>`(by simp_all)
|`(È)=>`(by decide+kernel)
|`(É)=>`(cV (by kernel_rfl))
|`(Ò)=>`(by rfl)
|`(Ö)=>`(s.heap.objs.size+1)
|`(Ø)=>`(by decide)
|`(Û)=>`((s,B)::r)
|`(ã)=>`(upd (upd (upd H T0 (ent .none T0)) a (exc C od (.ref T) a)) T (ent (rawInt L) T))
|`(å)=>`(⟨_,_,_,_,_,by k_is,by k_is,by decide,by repeat' constructor⟩)
|`(æ)=>`(cellsFrom (s3.heap.objs.size+1) scope.names (iU X.env.cells scope.names []))
|`(ç)=>`((·.map B))
|`(ì)=>`(⟨rfl,rfl,rfl,by decide+kernel,rfl,by decide+kernel,by decide+kernel⟩)
|`(í)=>`(⟨λi m σ H=>m=xs.length-i∧i≤xs.length∧Pv i σ H,⟨xs.length,by simp,dQ _,h0⟩,?_⟩)
local macro_rules
|`(tactic|show Ñ)=>`(tactic|intro X hP hw hK hc i pins s σ H E I hf st hg)
|`(tactic|show Ô)=>`(tactic|intro pins s σ H Q I h)
|`(tactic|show é)=>`(tactic|obtain⟨f0,f1,f2,f3,f4,f5⟩:=hf it Â)
|`(tactic|show î)=>`(tactic|intro pins s σ H x y v u Q I rx ry h)
namespace A_
def af:=@if_pos
def ah:=@if_neg
def aA:=@List.length_map
def aN:=@List.mem_cons_of_mem
def aO:=@Option.some.inj
def aP:=@PySem.wpAny_bind
def aY:=@List.map_cons
def bf:=@List.mem_cons
def bH:=@List.getElem?_eq_some_iff
def bO:=@Nat.le_refl
def bV:=@List.map_append
def bX:=@List.getElem?_map
def bY:=@List.mem_of_getElem?
def cb:=@List.mem_map
def cz:=@congrArg
def cO:=@List.map_map
def cZ:=@List.length_cons
def c7:=@PySem.wpAny_pure
def dh:=@PySem.Heap.get?_push_of_some
def di:=@PySem.Heap.lt_size
def dm:=@List.getElem?_eq_getElem
def dJ:=@Ne.symm
def dQ:=@Nat.zero_le
def dZ:=@Bool.false_ne_true
def eF:=@decide_eq_true
def fC:=@decide_eq_false
def fU:=@Nat.ne_of_lt
def gu:=@List.mem_cons_self
def gK:=@List.mem_append
def gM:=@List.sum_cons
def gW:=@Nat.le_trans
def gX:=@List.length_range
def g9:=@PySem.Heap.get?_push_size
def iQ:=@List.getD_eq_getElem?_getD
def i6:=@PySem.wpAny_mono
def i7:=@PySem.wpAny_loadPart'
def i8:=@Nat.lt_of_lt_of_le
def jq:=@Bool.and_eq_true
def j3:=@List.mem_filter
def j4:=@List.nodup_cons
def j5:=@List.find?_cons
def j6:=@List.map_congr_left
def j7:=@List.mem_flatMap
def kW:=@Bool.false_and
def kY:=@List.append_nil
def kZ:=@List.all_eq_true
def lE:=@List.map_nil
def lF:=@Bool.true_and
def mv:=@List.length_take
def mw:=@List.length_append
def mx:=@List.take_length
def my:=@List.not_mem_nil
def mz:=@or_false
def nI:=@decide_eq_true_eq
def nJ:=@List.mem_singleton
def oP:=@Bool.eq_iff_iff
def oQ:=@Nat.lt_of_le_of_lt
def pY:=@PySem.Heap.size_push
def pZ:=@PySem.PassesOwn.never
def qU:=@List.length_nil
def qV:=@Nat.lt_irrefl
def qW:=@List.all_cons
def qX:=@List.all_map
def qY:=@List.getElem_of_mem
def qZ:=@of_decide_eq_true
def rg:=@List.append_assoc
def sW:=@PySem.wpAny_loadPart_at
def sX:=@Nat.ne_of_gt
def sY:=@Nat.le_of_lt
def sZ:=@PySem.wpAny_truthy_bool
def tj:=@List.mem_append_right
def tm:=@List.size_toArray
def tp:=@List.any_cons
def uN:=@PySem.Obj.data_mapFields
def uO:=@PySem.wpAny_field
def uP:=@List.any_eq_true
def uQ:=@Bool.and_eq_true_iff
def wb:=@PySem.codeAny_mono
def wc:=@PySem.sizeLine_eq
def we:=@Array.length_toList
def wg:=@beq_eq_false_iff_ne
def wj:=@List.lookup_cons
def wk:=@Nat.zero_add
def wm:=@List.ext_getElem?
def wo:=@List.filter_cons
def x9:=@Option.map_eq_some_iff
def ya:=@beq_iff_eq
def yb:=@PySem.wpAny_Call_Name_kw
def yc:=@Bool.and_false
def yd:=@List.getElem?_eq_none
def ye:=@PyProof.Rows.boot_all
def yf:=@List.filter_map
def yg:=@List.nil_append
def z4:=@List.contains_cons
def z5:=@PySem.Heap.get?_update_other
def z6:=@Array.getElem?_eq_some_iff
def z7:=@List.mem_range
def z8:=@List.mem_append_left
def z9:=@PySem.wpAny_passesOwn
def Aa:=@List.getLast?_append
def Ac:=@List.flatMap_append
def Ad:=@List.dropLast_subset
def Ae:=@List.nodup_nil
def Af:=@List.filter_cons_of_pos
def Ag:=@List.filter_cons_of_neg
def Cr:=@PySem.wpAny_call
def Cu:=@PySem.wpAny_setField
def Cv:=@Nat.le_of_eq
def Cw:=@PySem.Heap.get?_update_self
def Cy:=@Int.toNat_natCast
def Cz:=@List.filterMap_cons
def CA:=@PySem.wpAny_execs_nil
def CC:=@PyProof.Rows.callWith_type1
def CD:=@PySem.Calls.spliced_cons
def CH:=@List.of_mem_zip
def CI:=@List.zip_cons_cons
def CJ:=@List.range_succ_eq_map
def CM:=@Option.isSome_map
def CO:=@PySem.tupleKind_room_in1
def CU:=@PySem.call_meetsIn
def CW:=@List.mem_of_getLast?
def CY:=@List.filter_append
def CZ:=@List.flatMap_cons
def C0:=@List.contains_iff_mem
def C2:=@Nat.testBit_and
def C3:=@Nat.testBit_lt_two_pow
def C4:=@Option.bind_some
def Gr:=@PySem.Obj.isFreed_of_fields
def Gs:=@Option.isSome_iff_exists
def Gu:=@List.getElem?_append_left
def Gv:=@PySem.Calls.callWith_builtin
def Gw:=@PySem.call_meets
def Gx:=@List.take_of_length_le
def Gy:=@Option.map_some
def Gz:=@Nat.lt_trans
def GA:=@PySem.wpAny_Call_method
def GC:=@PySem.plainId_quiet
def GG:=@List.mapM_cons
def GH:=@List.mem_of_mem_take
def GI:=@List.getLast?_singleton
def GJ:=@decide_eq_false_iff_not
def GO:=@List.length_filter_le
def GQ:=@List.range_succ
def GT:=@List.pairwise_cons
def GU:=@Nat.pow_le_pow_right
def GV:=@List.getElem?_zip_eq_some
def GW:=@List.foldl_cons
def GX:=@Int.le_refl
def Od:=@PySem.wpAny_isSubtype_exc
def Oe:=@PySem.wpAny_newObj_type
def Of:=@PySem.F.slot_tuple_iterator_next
def Og:=@PySem.Heap.get?_none_of_le
def Oh:=@List.mem_filterMap
def Oi:=@PySem.Calls.spliced_nil
def Oj:=@List.getElem?_append_right
def Ol:=@PySem.richCompare_meets_room
def Om:=@if_true
def On:=@PySem.Calls.evalArgs_plain
def Oo:=@List.any_map
def Oq:=@PySem.pushCells_keeps
def Os:=@Nat.le_of_succ_le
def Ot:=@Nat.lt_succ_of_lt
def Ou:=@PySem.wpAny_standAt
def Ov:=@Bool.false_or
def Ow:=@PySem.codeAny_builtin
def Ox:=@PySem.Around.under_plainId
def Oy:=@PySem.wpAny_pyIter_enum
def Oz:=@Bool.and_self
def OB:=@PySem.SeqAt.canLay_of_shaped
def OC:=@List.nodup_append
def OD:=@List.length_eq_zero_iff
def OE:=@List.map_drop
def OF:=@List.take_append_drop
def OG:=@List.take_succ_cons
def OI:=@List.findIdx?_eq_some_iff_getElem
def OJ:=@Nat.pow_succ
def OK:=@List.getElem?_range
def OL:=@Bool.and_true
def OM:=@List.pairwise_map
def ON:=@Int.natCast_nonneg
def OO:=@List.flatten_cons
def OP:=@Classical.byContradiction
def OQ:=@Bool.not_not
def OR:=@decide_eq_true_iff
def W6:=@PySem.wpAny_typeLookup_exc
def W7:=@PySem.wpAny_holding
def W8:=@Bool.or_true
def W9:=@PySem.wpAny_seqItems
def Xa:=@PySem.Obj.cls_mapFields
def Xc:=@PySem.wpAny_pyIter_tuple
def Xd:=@List.getElem_inj
def Xe:=@List.getElem?_set_self
def Xf:=@List.getElem?_set_ne
def Xi:=@PySem.wpAny_execs_cons
def Xj:=@PySem.wpAny_pyIter_list
def Xl:=@Nat.lt_succ_self
def Xm:=@PySem.plainObj_wpAny_Assign_Attribute
def Xn:=@Nat.le_succ
def Xo:=@List.getElem?_take_of_lt
def Xq:=@List.length_drop
def Xr:=@Array.getElem?_toList
def Xs:=@List.length_dropLast
def Xu:=@PySem.Heap.DictOf.new
def Xv:=@Nat.add_le_add_left
def Xw:=@List.getElem?_drop
def Xx:=@Nat.add_zero
def Xy:=@Nat.lt_of_not_le
def Xz:=@List.mem_of_mem_drop
def XA:=@beq_self_eq_true
def XD:=@List.findIdx?_cons
def XE:=@List.exists_cons_of_length_eq_add_one
def XF:=@Nat.succ.inj
def XG:=@List.filterMap_append
def XH:=@List.zip_append
def XI:=@Int.zero_add
def XJ:=@List.drop_eq_nil_of_le
def XM:=@List.zip_map_right
def XO:=@decide_eq_decide
def XQ:=@List.nodup_range
def XR:=@List.filter_congr
def XS:=@PySem.W.Codec.inNat_iff
def aol:=@PySem.F.entry_tuple_iterator_next
def aom:=@PySem.F.args_tuple_iterator_next_1
def aos:=@PySem.Calls.Name_function_global
def aoz:=@PySem.wpAny_newFunctionEnv_cells
def aoA:=@PyProof.Rows.callWith_builtin1
def aoC:=@PySem.AutoSeq1.sub_tuple_tuple
def aoF:=@Option.isSome_some
def aoG:=@Array.getElem?_eq_none
def aoI:=@List.getElem?_cons_zero
def aoJ:=@List.getElem?_cons_succ
def aoN:=@PySem.wpAny_letOwnedTupleGo_enum
def aoP:=@of_decide_eq_false
def aoR:=@List.getElem_range
def aoT:=@List.getLast?_eq_none_iff
def aoU:=@Function.comp_apply
def aoV:=@List.filter_eq_nil_iff
def aoW:=@List.pairwise_filter
def aoY:=@List.Sublist.nodup
def aoZ:=@Nat.eq_of_testBit_eq
def ao0:=@Nat.testBit_two_pow_self
def ao1:=@Classical.not_forall
def ao2:=@List.mem_eraseDups
def ao3:=@Nat.testBit_two_pow_add_gt
def ao4:=@Nat.testBit_two_pow_add_eq
def ao5:=@List.find?_cons_of_neg
def ao6:=@Nat.pos_of_ne_zero
def ao7:=@List.filter_sublist
def ao8:=@List.dropLast_concat
def ao9:=@Nat.lt_or_eq_of_le
end A_
open A_
section
namespace OH
open PySem PySem.Calls PySem.W PyProof.Rows
def runT(zY:String→Option Builtin)(P:Program)(W:World)(m:Nat)(an:Option Value):Nat→SharedT→Thread→Option SharedT
 |0,_,_=>none
 |k+1,x,y=>match through y with
  |true=>some x
  |false=>match stepOk m an y with
   |false=>none
   |true=>match stepT (denote zY) P W x y with
    |some z=>runT zY P W m an k z.1 z.2
    |none=>none
theorem XU{zY:String→Option Builtin}{P:Program}{W:World}{m:Nat}{an:Option Value}:∀(k:Nat)(x z:SharedT)(y:Thread),runT zY P W m an k x y=some z→topRun zY P W m an k x.abs y=some z.abs:=by
 intro k;induction k with
 |zero=>intro x z y h;cases h
 |succ k ih=>
  intro x z y h;unfold runT at h;unfold topRun;cases e1:through y with
  |true=>
   rw[e1] at h;cases h;rfl
  |false=>
   rw[e1] at h;cases e2:stepOk m an y with
   |false=>rw[e2] at h;cases h
   |true=>
    rw[e2] at h;dsimp only at h⊢;cases e3:stepT (denote zY) P W x y with
    |none=>rw[e3] at h;cases h
    |some v=>
     rw[e3] at h;rw[stepT_spec (s':=v.1) (t':=v.2) e3];exact ih _ _ _ h
def treeOf(l:List Obj):BT:=(l.foldl (λ(x:BT×Nat)o=>(x.1.ins x.2 o,x.2+1)) (.nil,0)).1
noncomputable def startT (W:World) (O:OsState):SharedT:=⟨treeOf (boot_heap W.params).objs.toList,(boot_heap W.params).objs.toList.length,(boot_heap W.params).life,Array.mk [],boot_drawn,boot_toks,O⟩
noncomputable def yh (W:World) (O:OsState):Shared:=⟨boot_heap W.params,Array.mk [],boot_drawn,boot_toks,O⟩
def XW(W:World)(O:OsState):(startT W O).abs=yh W O:=by
 kernel_rfl
noncomputable def keptAt (P:Program) (W:World) (x:Shared):Bool:=staticsOk Àe (boot_heap W.params) x.heap&&namesBound P x.heap&&gensDone x&&laidKept (boot_heap W.params) x.heap
noncomputable def looksAt (P Q:Program) (lo:List Str) (Xt:Shared→Bool) {α:Type} (Yf:Shared→α) (W:World) (x:Shared):=
 (keptAt P W x,openSeen Q lo Àe Xt true x,Yf x)
def XX{P:Program}{W:World}{N m:Nat}{an:Option Value}{O:OsState}{z:Shared}(size:((boot_heap W.params).isNs mainGlobals,(boot_heap W.params).objs.size,(boot_heap W.params).nsMap mainGlobals "__annotations__")=(true,m,an))(run:topRun treeTable P W m an N (yh W O) Çh=some z) (kept:keptAt P W z=true):topFrom treeTable P W N (yh W O)=some z:=by
 have s1:(boot_heap W.params).isNs mainGlobals=true:=cz Prod.fst size;have s2:(boot_heap W.params).objs.size=m:=cz (λx=>x.2.1) size;have s3:(boot_heap W.params).nsMap mainGlobals "__annotations__"=an:=cz (λx=>x.2.2) size;subst s2;subst s3;have g:((yh W O).heap.isNs mainGlobals&&(yh W O).gens.size==0)=true:=by
  show((boot_heap W.params).isNs mainGlobals&&true)=true;rw[s1];rfl
 unfold topFrom;rw[g];show(topRun treeTable P W (boot_heap W.params).objs.size ((boot_heap W.params).nsMap mainGlobals "__annotations__") N (yh W O) Çh).bind _=some z;rw[run];show(match keptAt P W z with|true=>some z|false=>none)=some z;rw[kept]
def XY{P Q:Program}{lo:List Str}{Xt:Shared→Bool}{α:Type}{Yf:Shared→α}{Ya:World→α}{N:Nat}{m:Nat}{an:Option Value}{M:Nat}(e:opening P=plainProg P.main.scope.names) (hN:Nat.ble 600 N=true) (f:∀s,fenceModules? P s=some s)(size:∀W:World,((boot_heap W.params).isNs mainGlobals,(boot_heap W.params).objs.size,(boot_heap W.params).nsMap mainGlobals "__annotations__")=(true,m,an))(le:Nat.ble M N=true)(fin:∀(W:World)(O:OsState),(runT treeTable P W m an M (startT W O) Çh).map (λs=>looksAt P Q lo Xt Yf W s.abs)=some (true,openGood Q lo,Ya W)):LeftO P Q lo Xt Yf Ya N:=by
 intro W;obtain⟨⟨h,gs,d,k,O⟩,o1,o2⟩:=x9.mp (boot_open e hN f W);cases o2;obtain⟨z,r1,r2⟩:=x9.mp (fin W O);have r3:=XU _ _ _ _ r1;rw[XW] at r3;have r4:=topRun_mono (N-M) _ _ _ _ r3;have hM:M+(N-M)=N:=Nat.add_sub_cancel' (Nat.le_of_ble_eq_true le);rw[hM] at r4;have c1:keptAt P W z.abs=true:=cz Prod.fst r2;have c2:(openSeen Q lo Àe Xt true z.abs,Yf z.abs)=(openGood Q lo,Ya W):=cz Prod.snd r2;have t:topFrom treeTable P W N ⟨boot_heap W.params,Array.mk [],boot_drawn,boot_toks,O⟩=some z.abs:=XX (size W) r4 c1;unfold openEnds;rw[o1];show Option.map _ (topFrom treeTable P W N ⟨boot_heap W.params,Array.mk [],boot_drawn,boot_toks,O⟩)=_;rw[t];exact cz some c2
lay_quick OH.runT
def XZ(W:World):((boot_heap W.params).isNs mainGlobals,(boot_heap W.params).objs.size,(boot_heap W.params).nsMap mainGlobals "__annotations__")=(true,11,some (.ref 6)):=by
 kernel_rfl
def X0{P Q:Program}{lo:List Str}{Xt:Shared→Bool}{α:Type}{Yf:Shared→α}{Ya:World→α}{N:Nat}(e:opening P=plainProg P.main.scope.names) (hN:Nat.ble 600 N=true) (f:∀s,fenceModules? P s=some s)(fin:∀(W:World)(O:OsState),(PySem.W.Fast.tw1264388230241321415 PySem.W.Fast.tw14364793385576792824 P W 11 (some (.ref 6)) N (startT W O) Çh).map (λs=>looksAt P Q lo Xt Yf W s.abs)=some (true,openGood Q lo,Ya W)):LeftO P Q lo Xt Yf Ya N:=
 XY e hN f XZ (Nat.ble_eq_true_of_le (bO N)) λW O=>by
  rw[PySem.W.Fast.te1264388230241321415,PySem.W.Fast.te14364793385576792824];exact fin W O
end OH
end
section
namespace L2
open PySem PySem.Spec PyProof.Rows
def inClass(s:Stmt)(j:Nat):Stmt:=match s with
 |.ClassDef _ _ _ gJ _ _ _ _ _ _ _=>gJ.getD j (.Pass ⟨0,0,0,0⟩)
 |_=>.Pass ⟨0,0,0,0⟩
def tq(s:Stmt):Arguments:=match s with
 |.FunctionDef _ a _ _ _ _ _ _ _ _=>a
 |_=>{posonlyargs:=[],args:=[],vararg:=none,kwonlyargs:=[],kw_defaults:=[],kwarg:=none,defaults:=[]}
def i9(s:Stmt):List Stmt:=match s with
 |.FunctionDef _ _ b _ _ _ _ _ _ _=>b
 |_=>[]
def a7(s:Stmt):Scope:=match s with
 |.FunctionDef _ _ _ _ _ _ sc _ _ _=>sc
 |_=>{kind:=.function,names:=[],isGenerator:=false,isCoroutine:=false}
end L2
namespace HD
open PySem PySem.Spec PyProof.Rows L2
def top(i:Nat):Stmt:=PySem.Challenge.pw_halfseendesk_s03_many.main.body.getD i (.Pass ⟨0,0,0,0⟩)
@[reducible] def kf (n q:Str) (st:Stmt) (m c:Value):Obj:=⟨.type "function",none,.func (PySem.W.fnOf n q (tq st) Äz Án .none .none .none m none c .none),#[]⟩
@[reducible] def ke (P:Params) (x:Str) (t:Nat) (v:Value):DictEntry:=⟨PyData.keyHash P x,.str x t,v⟩
@[reducible] def kc (n q:Str) (t:Nat) (l c:Int) (r:Nat) (x y:Value) (e:Nat) (d:Nat):Obj:=⟨.type "code",none,.fields #[.str n t,.str q (t+1),.str "/claim/cut.py" (t+2),.int l 0,.int c 0,.int 0 0,.int 0 0,.int 3 0,.ref r,.bool true,.int 181 0,.ref (r+1),.none,x,y,.ref e,.int d 0,.int l 0,.str "/claim/cut.py" (d+1)],#[]⟩
@[reducible] def kd (n:Str) (t:Nat) (l c:Int) (r:Nat) (x y:Value) (e:Nat) (d:Nat):Obj:=kc n n t l c r x y e d
@[reducible] def km (t:Nat):Str:=if t=187 then "halfseendesk.looks" else if t=214 then "halfseendesk.texts" else if t=292 then "halfseendesk.lockers" else if t=470 then "halfseendesk.platetexts" else if t=712 then "halfseendesk.sights" else if t=796 then "halfseendesk.displays" else if t=904 then "halfseendesk.books" else if t=1044 then "halfseendesk.readings" else "halfseendesk.plates"
@[reducible] def kg (n:Str) (i t r:Nat):Obj:=kf n n (top i) (.str (km t) t) Ãl
noncomputable def kK (P:Params):PySem.W.Frag:=
 (nat_lit 3,⟨(.type "dict"),none,(.dict #[ke P "__name__" 165 (.str "halfseendesk.plates" 1135),ke P "__doc__" 166 .none,ke P "__package__" 167 .none,ke P "__loader__" 168 (.builtin "__main__.__loader__#opaque"),ke P "__spec__" 169 .none,ke P "__annotations__" 170 (.ref 6),ke P "__builtins__" 171 (.ref 4),ke P "__file__" 173 (.str "/claim/cut.py" 172),ke P "__cached__" 174 .none,ke P "SHAPES" 192 (.ref 15),ke P "FRONT" 194 (.int 0 193),ke P "BEHIND" 196 (.int 1 195),ke P "CELLS" 198 (.int 16 197),ke P "ROW" 200 (.int 4 199),ke P "cell_behind" 207 (.ref 22),ke P "cells_seen" 213 (.ref 27),ke P "MOST_BYTES" 217 (.int 65536 216),ke P "LINE_END" 219 (.int 10 218),ke P "BLANK" 221 (.int 32 220),ke P "COLOUR_SIGNS" 223 (.str "0123456789abcdef" 222),ke P "NAME_SIGNS" 225 (.str "ABCDEFGHIJKLMNOPQRSTUVWXYZ0123456789" 224),ke P "LONGEST_NAME" 227 (.int 8 226),ke P "spelled" 233 (.ref 32),ke P "cut" 243 (.ref 39),ke P "whole_lines" 252 (.ref 46),ke P "place_among" 262 (.ref 53),ke P "places_in" 268 (.ref 58),ke P "read_colours" 275 (.ref 65),ke P "is_name" 282 (.ref 72),ke P "name_behind" 291 (.ref 79),ke P "SIGN" 295 (.int 0 294),ke P "SAME" 297 (.int 1 296),ke P "ROLES" 301 (.ref 80),ke P "WORDS_OF_ROLES" 305 (.ref 81),ke P "MOST_COPIES" 307 (.int 8 306),ke P "MOST_SAME" 309 (.int 4 308),ke P "MOST_SIGNS" 311 (.int 48 310),ke P "DIGIT_ZERO" 313 (.int 48 312),ke P "NoLocker" 333 (.ref 91),ke P "Kind" 372 (.ref 111),ke P "Locker" 403 (.ref 132),ke P "read_locker" 409 (.ref 141),ke P "read_name" 416 (.ref 148),ke P "read_digit" 424 (.ref 155),ke P "read_kind" 438 (.ref 162),ke P "are_in_order" 444 (.ref 561),ke P "are_in_order_lockers" 445 (.ref 167),ke P "may_follow" 453 (.ref 174),ke P "are_different" 459 (.ref 179),ke P "has_twice" 465 (.ref 184),ke P "MOST_HOISTS" 467 (.int 4 466),ke P "MOST_FLAGS" 469 (.int 8 468),ke P "SIDES" 475 (.ref 185),ke P "UNKNOWN_SIDE" 477 (.int 2 476),ke P "HOIST_LINES" 482 (.ref 186),ke P "SEEN_SHAPES" 487 (.ref 187),ke P "SEEN_SIGNS" 489 (.str "0123456789abcdef?" 488),ke P "UNSEEN_SHAPE" 491 (.int 3 490),ke P "UNSEEN_CELL" 493 (.int 16 492),ke P "SIDE_LINE" 495 (.int 0 494),ke P "HOIST_LINE" 497 (.int 1 496),ke P "SHAPE_LINE" 499 (.int 2 498),ke P "CELLS_LINE" 501 (.int 3 500),ke P "NO_SUCH_LINE" 503 (.int 1 502),ke P "WRONG_PLACE" 505 (.int 2 504),ke P "NoPlate" 536 (.ref 204),ke P "Sighting" 567 (.ref 224),ke P "Glimpse" 600 (.ref 245),ke P "Plate" 633 (.ref 266),ke P "read_plate" 646 (.ref 277),ke P "read_line" 656 (.ref 284),ke P "read_side" 666 (.ref 291),ke P "read_row" 673 (.ref 298),ke P "may_stand" 681 (.ref 305),ke P "lacks_flags" 688 (.ref 312),ke P "lacks_cells" 695 (.ref 319),ke P "has_whole_hoists" 702 (.ref 326),ke P "put" 711 (.ref 333),ke P "sighting_of" 722 (.ref 340),ke P "View" 753 (.ref 357),ke P "view_of" 759 (.ref 366),ke P "kinds_along" 765 (.ref 371),ke P "kinds_that_look_so" 771 (.ref 376),ke P "may_be" 777 (.ref 381),ke P "fits" 783 (.ref 386),ke P "hoist_fits" 789 (.ref 391),ke P "fits_at" 795 (.ref 396),ke P "Plan" 830 (.ref 413),ke P "display_told" 836 (.ref 422),ke P "copies_lacking" 842 (.ref 427),ke P "sames_along" 848 (.ref 432),ke P "bits_of_sames" 854 (.ref 437),ke P "places_of" 867 (.ref 444),ke P "plan_of" 873 (.ref 449),ke P "places_outside" 879 (.ref 454),ke P "copies_in" 885 (.ref 459),ke P "hoist_told" 891 (.ref 464),ke P "flag_told" 897 (.ref 469),ke P "hang" 903 (.ref 474),ke P "TITLE_LINES" 907 (.int 2 906),ke P "MOST_ENTRIES" 909 (.int 2048 908),ke P "LONGEST_MEANING" 911 (.int 64 910),ke P "FULL_STOP" 913 (.int 46 912),ke P "LAST_PRINTED" 915 (.int 126 914),ke P "NoBook" 935 (.ref 484),ke P "Entry" 966 (.ref 504),ke P "Book" 997 (.ref 525),ke P "read_book" 1003 (.ref 534),ke P "numbers_of_signs" 1009 (.ref 539),ke P "read_entry" 1018 (.ref 546),ke P "read_signs" 1024 (.ref 551),ke P "read_meaning" 1030 (.ref 556),ke P "are_in_order_books" 1037 (.ref 561),ke P "can_be_shown" 1043 (.ref 566),ke P "MOST_IN_DOUBT" 1047 (.int 1024 1046),ke P "TooMuchInDoubt" 1067 (.ref 576),ke P "Reading" 1100 (.ref 596),ke P "readings_of" 1106 (.ref 605),ke P "entries_in_doubt" 1112 (.ref 610),ke P "product" 1121 (.ref 617),ke P "all_rows" 1127 (.ref 622),ke P "sides_of" 1134 (.ref 629),ke P "Finding" 1171 (.ref 646),ke P "many" 1180 (.ref 657),ke P "answered" 1191 (.ref 664),ke P "found" 1203 (.ref 671)] 126),#[]⟩)::
 (nat_lit 15,⟨(.type "tuple"),none,(.seq #[(.str "square" 189),(.str "tails" 190),(.str "long" 191)] 0),#[]⟩)::
 (nat_lit 21,(kd "cell_behind" 201 7 1 16 (.ref 18) (.ref 19) 20 205))::
 (nat_lit 22,(kg "cell_behind" 6 187 21))::
 (nat_lit 26,(kd "cells_seen" 208 9 3 23 .none .none 25 211))::
 (nat_lit 27,(kg "cells_seen" 7 187 26))::
 (nat_lit 31,(kd "spelled" 228 20 1 28 .none .none 30 231))::
 (nat_lit 32,(kg "spelled" 15 214 31))::
 (nat_lit 38,(kd "cut" 234 22 2 33 (.ref 35) (.ref 36) 37 241))::
 (nat_lit 39,(kg "cut" 16 214 38))::
 (nat_lit 45,(kd "whole_lines" 244 30 1 40 (.ref 42) (.ref 43) 44 250))::
 (nat_lit 46,(kg "whole_lines" 17 214 45))::
 (nat_lit 52,(kd "place_among" 253 34 2 47 (.ref 49) (.ref 50) 51 260))::
 (nat_lit 53,(kg "place_among" 18 214 52))::
 (nat_lit 57,(kd "places_in" 263 39 2 54 .none .none 56 266))::
 (nat_lit 58,(kg "places_in" 19 214 57))::
 (nat_lit 64,(kd "read_colours" 269 44 1 59 (.ref 61) (.ref 62) 63 273))::
 (nat_lit 65,(kg "read_colours" 20 214 64))::
 (nat_lit 71,(kd "is_name" 276 48 1 66 (.ref 68) (.ref 69) 70 280))::
 (nat_lit 72,(kg "is_name" 21 214 71))::
 (nat_lit 78,(kd "name_behind" 283 50 2 73 (.ref 75) (.ref 76) 77 289))::
 (nat_lit 79,(kg "name_behind" 22 214 78))::
 (nat_lit 80,⟨(.type "tuple"),none,(.seq #[(.str "sign" 298),(.str "same" 299),(.str "answer" 300)] 0),#[]⟩)::
 (nat_lit 81,⟨(.type "tuple"),none,(.seq #[(.int 5 302),(.int 5 303),(.int 4 304)] 0),#[]⟩)::
 (nat_lit 90,⟨(.type "dict"),none,(.dict #[ke P "__module__" 321 (.str "halfseendesk.lockers" 292),ke P "__firstlineno__" 325 (.int 64 324),ke P "__static_attributes__" 326 (.ref 89),ke P "__weakref__" 328 (.ref 92),ke P "__doc__" 329 .none] 3),#[]⟩)::
 (nat_lit 91,⟨(.type "type"),none,(.cls ⟨"NoLocker",[(.type "Exception")],[(.ref 91),(.type "Exception"),(.type "BaseException"),(.type "object")],90,"NoLocker",true,[],[],false,none,false⟩),#[(some (.ref 82)),none,(some (.str "NoLocker" 314)),(some (.str "NoLocker" 322)),(some (.builtin "Exception.__new__")),ő]⟩)::
 (nat_lit 107,(kc "__init__" "Kind.__init__" 346 68 7 102 (.ref 104) (.ref 105) 106 356))::
 (nat_lit 108,(kf "__init__" "Kind.__init__" (inClass (top 33) 0) (.str "halfseendesk.lockers" 292) (.ref 107)))::
 (nat_lit 110,⟨(.type "dict"),none,(.dict #[ke P "__module__" 341 (.str "halfseendesk.lockers" 292),ke P "__firstlineno__" 345 (.int 66 344),ke P "__init__" 358 (.ref 108),ke P "__static_attributes__" 365 (.ref 109),ke P "__dict__" 367 (.ref 112),ke P "__weakref__" 369 (.ref 113),ke P "__doc__" 370 .none] 4),#[]⟩)::
 (nat_lit 111,⟨(.type "type"),none,(.cls ⟨"Kind",[(.type "object")],[(.ref 111),(.type "object")],110,"Kind",true,[],[],false,none,false⟩),#[none,none,(some (.str "Kind" 334)),(some (.str "Kind" 342)),(some (.builtin "object.__new__")),ő]⟩)::
 (nat_lit 128,(kc "__init__" "Locker.__init__" 385 77 3 123 (.ref 125) (.ref 126) 127 391))::
 (nat_lit 129,(kf "__init__" "Locker.__init__" (inClass (top 34) 0) (.str "halfseendesk.lockers" 292) (.ref 128)))::
 (nat_lit 131,⟨(.type "dict"),none,(.dict #[ke P "__module__" 380 (.str "halfseendesk.lockers" 292),ke P "__firstlineno__" 384 (.int 75 383),ke P "__init__" 393 (.ref 129),ke P "__static_attributes__" 396 (.ref 130),ke P "__dict__" 398 (.ref 133),ke P "__weakref__" 400 (.ref 134),ke P "__doc__" 401 .none] 4),#[]⟩)::
 (nat_lit 132,⟨(.type "type"),none,(.cls ⟨"Locker",[(.type "object")],[(.ref 132),(.type "object")],131,"Locker",true,[],[],false,none,false⟩),#[none,none,(some (.str "Locker" 373)),(some (.str "Locker" 381)),(some (.builtin "object.__new__")),ő]⟩)::
 (nat_lit 140,(kd "read_locker" 404 80 1 137 .none .none 139 407))::
 (nat_lit 141,(kg "read_locker" 35 292 140))::
 (nat_lit 147,(kd "read_name" 410 89 1 142 (.ref 144) (.ref 145) 146 414))::
 (nat_lit 148,(kg "read_name" 36 292 147))::
 (nat_lit 154,(kd "read_digit" 417 93 2 149 (.ref 151) (.ref 152) 153 422))::
 (nat_lit 155,(kg "read_digit" 37 292 154))::
 (nat_lit 161,(kd "read_kind" 425 97 1 156 (.ref 158) (.ref 159) 160 436))::
 (nat_lit 162,(kg "read_kind" 38 292 161))::
 (nat_lit 166,(kd "are_in_order" 439 110 1 163 .none .none 165 442))::
 (nat_lit 167,(kg "are_in_order" 39 292 166))::
 (nat_lit 173,(kd "may_follow" 446 116 2 168 (.ref 170) (.ref 171) 172 451))::
 (nat_lit 174,(kg "may_follow" 41 292 173))::
 (nat_lit 178,(kd "are_different" 454 120 1 175 .none .none 177 457))::
 (nat_lit 179,(kg "are_different" 42 292 178))::
 (nat_lit 183,(kd "has_twice" 460 124 1 180 .none .none 182 463))::
 (nat_lit 184,(kg "has_twice" 43 292 183))::
 (nat_lit 185,⟨(.type "tuple"),none,(.seq #[(.str "front" 472),(.str "behind" 473),(.str "unknown" 474)] 0),#[]⟩)::
 (nat_lit 186,⟨(.type "tuple"),none,(.seq #[(.str "hoist" 478),(.str "hoist above" 479),(.str "hoist below" 480),(.str "hoist above below" 481)] 0),#[]⟩)::
 (nat_lit 187,⟨(.type "tuple"),none,(.seq #[(.str "square" 483),(.str "tails" 484),(.str "long" 485),(.str "shape?" 486)] 0),#[]⟩)::
 (nat_lit 200,(kc "__init__" "NoPlate.__init__" 518 144 3 195 (.ref 197) (.ref 198) 199 524))::
 (nat_lit 201,(kf "__init__" "NoPlate.__init__" (inClass (top 60) 0) (.str "halfseendesk.platetexts" 470) (.ref 200)))::
 (nat_lit 203,⟨(.type "dict"),none,(.dict #[ke P "__module__" 513 (.str "halfseendesk.platetexts" 470),ke P "__firstlineno__" 517 (.int 142 516),ke P "__init__" 526 (.ref 201),ke P "__static_attributes__" 529 (.ref 202),ke P "__weakref__" 531 (.ref 205),ke P "__doc__" 532 .none] 3),#[]⟩)::
 (nat_lit 204,⟨(.type "type"),none,(.cls ⟨"NoPlate",[(.type "Exception")],[(.ref 204),(.type "Exception"),(.type "BaseException"),(.type "object")],203,"NoPlate",true,[],[],false,none,false⟩),#[(some (.ref 188)),none,(some (.str "NoPlate" 506)),(some (.str "NoPlate" 514)),(some (.builtin "Exception.__new__")),ő]⟩)::
 (nat_lit 220,(kc "__init__" "Sighting.__init__" 549 150 3 215 (.ref 217) (.ref 218) 219 555))::
 (nat_lit 221,(kf "__init__" "Sighting.__init__" (inClass (top 61) 0) (.str "halfseendesk.platetexts" 470) (.ref 220)))::
 (nat_lit 223,⟨(.type "dict"),none,(.dict #[ke P "__module__" 544 (.str "halfseendesk.platetexts" 470),ke P "__firstlineno__" 548 (.int 148 547),ke P "__init__" 557 (.ref 221),ke P "__static_attributes__" 560 (.ref 222),ke P "__dict__" 562 (.ref 225),ke P "__weakref__" 564 (.ref 226),ke P "__doc__" 565 .none] 4),#[]⟩)::
 (nat_lit 224,⟨(.type "type"),none,(.cls ⟨"Sighting",[(.type "object")],[(.ref 224),(.type "object")],223,"Sighting",true,[],[],false,none,false⟩),#[none,none,(some (.str "Sighting" 537)),(some (.str "Sighting" 545)),(some (.builtin "object.__new__")),ő]⟩)::
 (nat_lit 241,(kc "__init__" "Glimpse.__init__" 580 155 4 236 (.ref 238) (.ref 239) 240 587))::
 (nat_lit 242,(kf "__init__" "Glimpse.__init__" (inClass (top 62) 0) (.str "halfseendesk.platetexts" 470) (.ref 241)))::
 (nat_lit 244,⟨(.type "dict"),none,(.dict #[ke P "__module__" 575 (.str "halfseendesk.platetexts" 470),ke P "__firstlineno__" 579 (.int 153 578),ke P "__init__" 589 (.ref 242),ke P "__static_attributes__" 593 (.ref 243),ke P "__dict__" 595 (.ref 246),ke P "__weakref__" 597 (.ref 247),ke P "__doc__" 598 .none] 4),#[]⟩)::
 (nat_lit 245,⟨(.type "type"),none,(.cls ⟨"Glimpse",[(.type "object")],[(.ref 245),(.type "object")],244,"Glimpse",true,[],[],false,none,false⟩),#[none,none,(some (.str "Glimpse" 568)),(some (.str "Glimpse" 576)),(some (.builtin "object.__new__")),ő]⟩)::
 (nat_lit 262,(kc "__init__" "Plate.__init__" 613 161 4 257 (.ref 259) (.ref 260) 261 620))::
 (nat_lit 263,(kf "__init__" "Plate.__init__" (inClass (top 63) 0) (.str "halfseendesk.platetexts" 470) (.ref 262)))::
 (nat_lit 265,⟨(.type "dict"),none,(.dict #[ke P "__module__" 608 (.str "halfseendesk.platetexts" 470),ke P "__firstlineno__" 612 (.int 159 611),ke P "__init__" 622 (.ref 263),ke P "__static_attributes__" 626 (.ref 264),ke P "__dict__" 628 (.ref 267),ke P "__weakref__" 630 (.ref 268),ke P "__doc__" 631 .none] 4),#[]⟩)::
 (nat_lit 266,⟨(.type "type"),none,(.cls ⟨"Plate",[(.type "object")],[(.ref 266),(.type "object")],265,"Plate",true,[],[],false,none,false⟩),#[none,none,(some (.str "Plate" 601)),(some (.str "Plate" 609)),(some (.builtin "object.__new__")),ő]⟩)::
 (nat_lit 276,(kd "read_plate" 634 165 1 271 (.ref 273) (.ref 274) 275 644))::
 (nat_lit 277,(kg "read_plate" 64 470 276))::
 (nat_lit 283,(kd "read_line" 647 181 1 278 (.ref 280) (.ref 281) 282 654))::
 (nat_lit 284,(kg "read_line" 65 470 283))::
 (nat_lit 290,(kd "read_side" 657 187 1 285 (.ref 287) (.ref 288) 289 664))::
 (nat_lit 291,(kg "read_side" 66 470 290))::
 (nat_lit 297,(kd "read_row" 667 196 1 292 (.ref 294) (.ref 295) 296 671))::
 (nat_lit 298,(kg "read_row" 67 470 297))::
 (nat_lit 304,(kd "may_stand" 674 200 2 299 (.ref 301) (.ref 302) 303 679))::
 (nat_lit 305,(kg "may_stand" 68 470 304))::
 (nat_lit 311,(kd "lacks_flags" 682 208 1 306 (.ref 308) (.ref 309) 310 686))::
 (nat_lit 312,(kg "lacks_flags" 69 470 311))::
 (nat_lit 318,(kd "lacks_cells" 689 210 1 313 (.ref 315) (.ref 316) 317 693))::
 (nat_lit 319,(kg "lacks_cells" 70 470 318))::
 (nat_lit 325,(kd "has_whole_hoists" 696 214 1 320 (.ref 322) (.ref 323) 324 700))::
 (nat_lit 326,(kg "has_whole_hoists" 71 470 325))::
 (nat_lit 332,(kd "put" 703 216 3 327 (.ref 329) (.ref 330) 331 709))::
 (nat_lit 333,(kg "put" 72 470 332))::
 (nat_lit 339,(kd "sighting_of" 714 227 3 334 (.ref 336) (.ref 337) 338 720))::
 (nat_lit 340,(kg "sighting_of" 74 712 339))::
 (nat_lit 353,(kc "__init__" "View.__init__" 735 231 3 348 (.ref 350) (.ref 351) 352 741))::
 (nat_lit 354,(kf "__init__" "View.__init__" (inClass (top 75) 0) (.str "halfseendesk.sights" 712) (.ref 353)))::
 (nat_lit 356,⟨(.type "dict"),none,(.dict #[ke P "__module__" 730 (.str "halfseendesk.sights" 712),ke P "__firstlineno__" 734 (.int 229 733),ke P "__init__" 743 (.ref 354),ke P "__static_attributes__" 746 (.ref 355),ke P "__dict__" 748 (.ref 358),ke P "__weakref__" 750 (.ref 359),ke P "__doc__" 751 .none] 4),#[]⟩)::
 (nat_lit 357,⟨(.type "type"),none,(.cls ⟨"View",[(.type "object")],[(.ref 357),(.type "object")],356,"View",true,[],[],false,none,false⟩),#[none,none,(some (.str "View" 723)),(some (.str "View" 731)),(some (.builtin "object.__new__")),ő]⟩)::
 (nat_lit 365,(kd "view_of" 754 234 3 362 .none .none 364 757))::
 (nat_lit 366,(kg "view_of" 76 712 365))::
 (nat_lit 370,(kd "kinds_along" 760 237 2 367 .none .none 369 763))::
 (nat_lit 371,(kg "kinds_along" 77 712 370))::
 (nat_lit 375,(kd "kinds_that_look_so" 766 239 2 372 .none .none 374 769))::
 (nat_lit 376,(kg "kinds_that_look_so" 78 712 375))::
 (nat_lit 380,(kd "may_be" 772 241 2 377 .none .none 379 775))::
 (nat_lit 381,(kg "may_be" 79 712 380))::
 (nat_lit 385,(kd "fits" 778 245 3 382 .none .none 384 781))::
 (nat_lit 386,(kg "fits" 80 712 385))::
 (nat_lit 390,(kd "hoist_fits" 784 247 3 387 .none .none 389 787))::
 (nat_lit 391,(kg "hoist_fits" 81 712 390))::
 (nat_lit 395,(kd "fits_at" 790 252 3 392 .none .none 394 793))::
 (nat_lit 396,(kg "fits_at" 82 712 395))::
 (nat_lit 409,(kc "__init__" "Plan.__init__" 810 257 4 404 (.ref 406) (.ref 407) 408 817))::
 (nat_lit 410,(kf "__init__" "Plan.__init__" (inClass (top 84) 0) (.str "halfseendesk.displays" 796) (.ref 409)))::
 (nat_lit 412,⟨(.type "dict"),none,(.dict #[ke P "__module__" 805 (.str "halfseendesk.displays" 796),ke P "__firstlineno__" 809 (.int 255 808),ke P "__init__" 819 (.ref 410),ke P "__static_attributes__" 823 (.ref 411),ke P "__dict__" 825 (.ref 414),ke P "__weakref__" 827 (.ref 415),ke P "__doc__" 828 .none] 4),#[]⟩)::
 (nat_lit 413,⟨(.type "type"),none,(.cls ⟨"Plan",[(.type "object")],[(.ref 413),(.type "object")],412,"Plan",true,[],[],false,none,false⟩),#[none,none,(some (.str "Plan" 798)),(some (.str "Plan" 806)),(some (.builtin "object.__new__")),ő]⟩)::
 (nat_lit 421,(kd "display_told" 831 261 2 418 .none .none 420 834))::
 (nat_lit 422,(kg "display_told" 85 796 421))::
 (nat_lit 426,(kd "copies_lacking" 837 271 2 423 .none .none 425 840))::
 (nat_lit 427,(kg "copies_lacking" 86 796 426))::
 (nat_lit 431,(kd "sames_along" 843 277 3 428 .none .none 430 846))::
 (nat_lit 432,(kg "sames_along" 87 796 431))::
 (nat_lit 436,(kd "bits_of_sames" 849 279 4 433 .none .none 435 852))::
 (nat_lit 437,(kg "bits_of_sames" 88 796 436))::
 (nat_lit 443,(kd "places_of" 855 282 2 438 (.ref 440) (.ref 441) 442 865))::
 (nat_lit 444,(kg "places_of" 89 796 443))::
 (nat_lit 448,(kd "plan_of" 868 288 4 445 .none .none 447 871))::
 (nat_lit 449,(kg "plan_of" 90 796 448))::
 (nat_lit 453,(kd "places_outside" 874 297 2 450 .none .none 452 877))::
 (nat_lit 454,(kg "places_outside" 91 796 453))::
 (nat_lit 458,(kd "copies_in" 880 299 3 455 .none .none 457 883))::
 (nat_lit 459,(kg "copies_in" 92 796 458))::
 (nat_lit 463,(kd "hoist_told" 886 301 3 460 .none .none 462 889))::
 (nat_lit 464,(kg "hoist_told" 93 796 463))::
 (nat_lit 468,(kd "flag_told" 892 303 3 465 .none .none 467 895))::
 (nat_lit 469,(kg "flag_told" 94 796 468))::
 (nat_lit 473,(kd "hang" 898 311 4 470 .none .none 472 901))::
 (nat_lit 474,(kg "hang" 95 796 473))::
 (nat_lit 483,⟨(.type "dict"),none,(.dict #[ke P "__module__" 923 (.str "halfseendesk.books" 904),ke P "__firstlineno__" 927 (.int 327 926),ke P "__static_attributes__" 928 (.ref 482),ke P "__weakref__" 930 (.ref 485),ke P "__doc__" 931 .none] 3),#[]⟩)::
 (nat_lit 484,⟨(.type "type"),none,(.cls ⟨"NoBook",[(.type "Exception")],[(.ref 484),(.type "Exception"),(.type "BaseException"),(.type "object")],483,"NoBook",true,[],[],false,none,false⟩),#[(some (.ref 475)),none,(some (.str "NoBook" 916)),(some (.str "NoBook" 924)),(some (.builtin "Exception.__new__")),ő]⟩)::
 (nat_lit 500,(kc "__init__" "Entry.__init__" 948 331 3 495 (.ref 497) (.ref 498) 499 954))::
 (nat_lit 501,(kf "__init__" "Entry.__init__" (inClass (top 103) 0) (.str "halfseendesk.books" 904) (.ref 500)))::
 (nat_lit 503,⟨(.type "dict"),none,(.dict #[ke P "__module__" 943 (.str "halfseendesk.books" 904),ke P "__firstlineno__" 947 (.int 329 946),ke P "__init__" 956 (.ref 501),ke P "__static_attributes__" 959 (.ref 502),ke P "__dict__" 961 (.ref 505),ke P "__weakref__" 963 (.ref 506),ke P "__doc__" 964 .none] 4),#[]⟩)::
 (nat_lit 504,⟨(.type "type"),none,(.cls ⟨"Entry",[(.type "object")],[(.ref 504),(.type "object")],503,"Entry",true,[],[],false,none,false⟩),#[none,none,(some (.str "Entry" 936)),(some (.str "Entry" 944)),(some (.builtin "object.__new__")),ő]⟩)::
 (nat_lit 521,(kc "__init__" "Book.__init__" 979 336 3 516 (.ref 518) (.ref 519) 520 985))::
 (nat_lit 522,(kf "__init__" "Book.__init__" (inClass (top 104) 0) (.str "halfseendesk.books" 904) (.ref 521)))::
 (nat_lit 524,⟨(.type "dict"),none,(.dict #[ke P "__module__" 974 (.str "halfseendesk.books" 904),ke P "__firstlineno__" 978 (.int 334 977),ke P "__init__" 987 (.ref 522),ke P "__static_attributes__" 990 (.ref 523),ke P "__dict__" 992 (.ref 526),ke P "__weakref__" 994 (.ref 527),ke P "__doc__" 995 .none] 4),#[]⟩)::
 (nat_lit 525,⟨(.type "type"),none,(.cls ⟨"Book",[(.type "object")],[(.ref 525),(.type "object")],524,"Book",true,[],[],false,none,false⟩),#[none,none,(some (.str "Book" 967)),(some (.str "Book" 975)),(some (.builtin "object.__new__")),ő]⟩)::
 (nat_lit 533,(kd "read_book" 998 339 2 530 .none .none 532 1001))::
 (nat_lit 534,(kg "read_book" 105 904 533))::
 (nat_lit 538,(kd "numbers_of_signs" 1004 351 1 535 .none .none 537 1007))::
 (nat_lit 539,(kg "numbers_of_signs" 106 904 538))::
 (nat_lit 545,(kd "read_entry" 1010 353 2 540 (.ref 542) (.ref 543) 544 1016))::
 (nat_lit 546,(kg "read_entry" 107 904 545))::
 (nat_lit 550,(kd "read_signs" 1019 358 2 547 .none .none 549 1022))::
 (nat_lit 551,(kg "read_signs" 108 904 550))::
 (nat_lit 555,(kd "read_meaning" 1025 363 1 552 .none .none 554 1028))::
 (nat_lit 556,(kg "read_meaning" 109 904 555))::
 (nat_lit 560,(kd "are_in_order" 1031 369 1 557 .none .none 559 1034))::
 (nat_lit 561,(kg "are_in_order" 110 904 560))::
 (nat_lit 565,(kd "can_be_shown" 1038 373 2 562 .none .none 564 1041))::
 (nat_lit 566,(kg "can_be_shown" 112 904 565))::
 (nat_lit 575,⟨(.type "dict"),none,(.dict #[ke P "__module__" 1055 (.str "halfseendesk.readings" 1044),ke P "__firstlineno__" 1059 (.int 377 1058),ke P "__static_attributes__" 1060 (.ref 574),ke P "__weakref__" 1062 (.ref 577),ke P "__doc__" 1063 .none] 3),#[]⟩)::
 (nat_lit 576,⟨(.type "type"),none,(.cls ⟨"TooMuchInDoubt",[(.type "Exception")],[(.ref 576),(.type "Exception"),(.type "BaseException"),(.type "object")],575,"TooMuchInDoubt",true,[],[],false,none,false⟩),#[(some (.ref 567)),none,(some (.str "TooMuchInDoubt" 1048)),(some (.str "TooMuchInDoubt" 1056)),(some (.builtin "Exception.__new__")),ő]⟩)::
 (nat_lit 592,(kc "__init__" "Reading.__init__" 1080 381 4 587 (.ref 589) (.ref 590) 591 1087))::
 (nat_lit 593,(kf "__init__" "Reading.__init__" (inClass (top 116) 0) (.str "halfseendesk.readings" 1044) (.ref 592)))::
 (nat_lit 595,⟨(.type "dict"),none,(.dict #[ke P "__module__" 1075 (.str "halfseendesk.readings" 1044),ke P "__firstlineno__" 1079 (.int 379 1078),ke P "__init__" 1089 (.ref 593),ke P "__static_attributes__" 1093 (.ref 594),ke P "__dict__" 1095 (.ref 597),ke P "__weakref__" 1097 (.ref 598),ke P "__doc__" 1098 .none] 4),#[]⟩)::
 (nat_lit 596,⟨(.type "type"),none,(.cls ⟨"Reading",[(.type "object")],[(.ref 596),(.type "object")],595,"Reading",true,[],[],false,none,false⟩),#[none,none,(some (.str "Reading" 1068)),(some (.str "Reading" 1076)),(some (.builtin "object.__new__")),ő]⟩)::
 (nat_lit 604,(kd "readings_of" 1101 385 3 601 .none .none 603 1104))::
 (nat_lit 605,(kg "readings_of" 117 1044 604))::
 (nat_lit 609,(kd "entries_in_doubt" 1107 397 2 606 .none .none 608 1110))::
 (nat_lit 610,(kg "entries_in_doubt" 118 1044 609))::
 (nat_lit 616,(kd "product" 1113 402 1 611 (.ref 613) (.ref 614) 615 1119))::
 (nat_lit 617,(kg "product" 119 1044 616))::
 (nat_lit 621,(kd "all_rows" 1122 407 1 618 .none .none 620 1125))::
 (nat_lit 622,(kg "all_rows" 120 1044 621))::
 (nat_lit 628,(kd "sides_of" 1128 417 1 623 (.ref 625) (.ref 626) 627 1132))::
 (nat_lit 629,(kg "sides_of" 121 1044 628))::
 (nat_lit 642,(kc "__init__" "Finding.__init__" 1149 422 5 637 (.ref 639) (.ref 640) 641 1157))::
 (nat_lit 643,(kf "__init__" "Finding.__init__" (inClass (top 123) 0) (.str "halfseendesk.plates" 1135) (.ref 642)))::
 (nat_lit 645,⟨(.type "dict"),none,(.dict #[ke P "__module__" 1144 (.str "halfseendesk.plates" 1135),ke P "__firstlineno__" 1148 (.int 420 1147),ke P "__init__" 1159 (.ref 643),ke P "__static_attributes__" 1164 (.ref 644),ke P "__dict__" 1166 (.ref 647),ke P "__weakref__" 1168 (.ref 648),ke P "__doc__" 1169 .none] 4),#[]⟩)::
 (nat_lit 646,⟨(.type "type"),none,(.cls ⟨"Finding",[(.type "object")],[(.ref 646),(.type "object")],645,"Finding",true,[],[],false,none,false⟩),#[none,none,(some (.str "Finding" 1137)),(some (.str "Finding" 1145)),(some (.builtin "object.__new__")),ő]⟩)::
 (nat_lit 656,(kd "many" 1172 427 3 651 (.ref 653) (.ref 654) 655 1178))::
 (nat_lit 657,(kg "many" 124 1135 656))::
 (nat_lit 663,(kd "answered" 1181 429 4 658 (.ref 660) (.ref 661) 662 1189))::
 (nat_lit 664,(kg "answered" 125 1135 663))::
 (nat_lit 670,(kd "found" 1192 443 3 665 (.ref 667) (.ref 668) 669 1201))::
 (nat_lit 671,(kg "found" 126 1135 670))::[]
def kA:List Addr:=[3,15,21,22,26,27,31,32,38,39,45,46,52,53,57,58,64,65,71,72,78,79,80,81,90,91,107,108,110,111,128,129,131,132,140,141,147,148,154,155,161,162,166,167,173,174,178,179,183,184,185,186,187,200,201,203,204,220,221,223,224,241,242,244,245,262,263,265,266,276,277,283,284,290,291,297,298,304,305,311,312,318,319,325,326,332,333,339,340,353,354,356,357,365,366,370,371,375,376,380,381,385,386,390,391,395,396,409,410,412,413,421,422,426,427,431,432,436,437,443,444,448,449,453,454,458,459,463,464,468,469,473,474,483,484,500,501,503,504,521,522,524,525,533,534,538,539,545,546,550,551,555,556,560,561,565,566,575,576,592,593,595,596,604,605,609,610,616,617,621,622,628,629,642,643,645,646,656,657,663,664,670,671]
noncomputable def kQ:Program:=PySem.W.view PySem.Challenge.pw_halfseendesk_s03_many [1,2,3,4,5,6,7,9,10,11,12,13,14,15,16,17,18,19,20,21,22,24,25,26,27,28,29,30,31,32,33,34,35,36,37,38,40,41,42,43,44,45,47,48,49,50,51,52,53,54,55,56,57,58,59,60,61,62,63,64,65,66,67,68,69,70,71,72,74,75,76,77,78,79,80,81,82,84,85,86,87,88,89,90,91,92,93,94,95,97,98,99,100,101,102,103,104,105,106,107,108,109,110,111,112,114,115,116,117,118,119,120,121,123,124,125,126]
def kE(P:Params):kA=(kK P).map (·.1):=by kernel_rfl
abbrev kL:List Str:=["are_in_order_lockers","are_in_order_books"]
noncomputable abbrev kX:Shared→Bool:=λs=>PySem.W.xlAt kQ [] s&&PySem.W.recOk [] s
noncomputable abbrev kR (w:World) (os:OsState):=PySem.W.Fast.tw1264388230241321415 PySem.W.Fast.tw14364793385576792824 PySem.Challenge.pw_halfseendesk_s03_many w 11 (some (.ref 6)) 11158 (OH.startT w os) (PySem.W.topStub PySem.Challenge.pw_halfseendesk_s03_many)
section
open PySem.Calls PySem.W
def p7(w:World)(os:OsState):(kR w os).map (λs=>(s.abs.heap.bltView,plainSeenD kQ kL s.abs,clsSeenW kQ kL s.abs,(s.abs.heap.accountedOkI (importedModules PySem.Challenge.pw_halfseendesk_s03_many.main.body),s.abs.heap.isNs mainGlobals,s.abs.heap.isNs builtinsNs),(kX s.abs,s.abs.gens.size==0),OH.keptAt PySem.Challenge.pw_halfseendesk_s03_many w s.abs,pinSeenD kQ (drecsOf kQ) s.abs,Hook.obs Âj s.abs))=some (bltViewBooted,plainGoodD kQ kL,clsGoodW kQ kL,(true,true,true),(true,true),true,pinGoodD (drecsOf kQ),Hook.val Âj w):=by kernel_rfl
def nM(w:World)(os:OsState):(kR w os).map (λs=>(tablesOk kQ s.abs.heap,seen ((recsOf kQ).map (·.name)) (ownsOf kQ) [] {s.abs with gens:= #[]}))=some (true,expectedOf kQ):=by kernel_rfl
def rh(w:World)(os:OsState):(kR w os).map (λs=>(s.abs.heap.keysOk Äa ((recsOf kQ).map (·.name)) ((litsOf kQ).map (·.1)) ((clssOf kQ Äa).map (·.name))))=some (true):=by kernel_rfl
def GY(w:World)(os:OsState):(kR w os).map (λs=>(tabsOk kQ s.abs))=some (true):=by kernel_rfl
def X1(w:World)(os:OsState):(kR w os).map (λs=>(plainSeenE kQ Äa s.abs))=some (plainGoodE kQ Äa):=by kernel_rfl
def GZ(w:World)(os:OsState):(kR w os).map (λs=>(wideSeen kQ s.abs))=some (wideGood kQ):=by kernel_rfl
def lG{α β:Type}{x:Option α}{z:α}{f:α→β}{b:β}(r:x=some z)(h:x.map f=some b):f z=b:=by
 rw[r] at h;exact aO h
def X2{A B C D E F G H I J K:Type}{a a':A}{b b':B}{c c':C}{d d':D}{e e':E}{f f':F}{g g':G}{h h':H}{i i':I}{j j':J}{k k':K}(h1:a=a')(h2:b=b')(h3:c=c')(h4:d=d')(h5:e=e')(h6:f=f')(h7:g=g')(h8:h=h')(h9:i=i')(X3:j=j')(X4:k=k'):
  (a,(b,c,d,e,f,g,h,i,j),k)=(a',(b',c',d',e',f',g',h',i',j'),k'):=by
 cases h1;cases h2;cases h3;cases h4;cases h5;cases h6;cases h7;cases h8;cases h9;cases X3;cases X4;rfl
def X5:LeftO PySem.Challenge.pw_halfseendesk_s03_many kQ kL kX (Hook.obs Âj) (Hook.val Âj) 11158:=
 OH.X0 (by kernel_rfl) Ò (λs=>by kernel_rfl) λw os=>by
  obtain⟨z,r,_⟩:=x9.mp (p7 w os);rw[show PySem.W.Fast.tw1264388230241321415 PySem.W.Fast.tw14364793385576792824 PySem.Challenge.pw_halfseendesk_s03_many w 11 (some (.ref 6)) 11158 (OH.startT w os) (PySem.W.topStub PySem.Challenge.pw_halfseendesk_s03_many)=some z from r];have g0:=lG r (p7 w os);have X6:=cz (λx=>x.1) g0;have X7:=cz (λx=>x.2.1) g0;have X8:=cz (λx=>x.2.2.1) g0;have G0:=cz (λx=>x.2.2.2.1) g0;have OS:=cz (λx=>x.2.2.2.2.1) g0;have X9:=cz (λx=>x.2.2.2.2.2.1) g0;have Yb:=cz (λx=>x.2.2.2.2.2.2.1) g0;have Yc:=cz (λx=>x.2.2.2.2.2.2.2) g0;have g1:=lG r (nM w os);have Yd:=cz (λx=>x.1) g1;have Ye:=cz (λx=>x.2) g1;have g2:=lG r (rh w os);have Yg:=g2;have g3:=lG r (GY w os);have Yh:=g3;have g4:=lG r (X1 w os);have Yi:=g4;have g5:=lG r (GZ w os);have Yj:=g5;dsimp only at*;refine cz some (X2 X9 Ye X6 ?_ Yh Yb Yi X7 Yj X8 Yc);have a1:=cz (λx=>x.1) G0;have a2:=cz (λx=>x.2.1) G0;have a3:=cz (λx=>x.2.2) G0;have b1:=cz (λx=>x.1) OS;have b2:=cz (λx=>x.2) OS;dsimp only at a1 a2 a3 b1 b2;show(_&&_&&_&&_&&_&&_&&(z.abs.gens.size==0))=true;rw[Yg,a1,a2,a3,Yd,b1,b2];rfl
end
end HD
end
abbrev LI:=List Int
abbrev LN:=List Nat
abbrev bq:=List (List Nat)
abbrev dc:=List (List Int)
abbrev FR:=PySem.W.Frag
abbrev MG:=PySem.Str→Option PySem.Value
abbrev OA:=Option PySem.Addr
abbrev LV:=List PySem.Value
abbrev LS:=List PySem.Str
abbrev AO:=Array (Option PySem.Value)
abbrev VP:=PySem.Value→PySem.Shared→Prop
abbrev bI:=List (PySem.Addr×PySem.Obj)
abbrev cf:=List (Nat×Nat)
abbrev fk:=List (PySem.Str×PySem.Addr)
abbrev LA:=List PySem.Addr
abbrev Sh:=PySem.Shared
abbrev Pg:=PySem.Program
abbrev Wd:=PySem.World
abbrev FD:=PySem.FuncData
section
namespace PySem
namespace XL
abbrev p9(C t:Addr):Obj:={cls:=.ref C,data:=.fields #[.ref t,.none,.none,.none,.bool false,.none]}
abbrev nN(bG:LV):Obj:={cls:=.type "tuple",data:=.seq bG.toArray}
def Yk(x:Addr)(R:Result→Shared→Prop)(r:Result)(s':Sh):Prop:=match r with
 |.ok (.ret v)=>v=.none∧R (.ok (.ret Ū)) s'
 |.ok _=>False
 |.error e=>R Ào s'
section
variable{prog:Pg}{w:Wd}{A:Around}{E:VP}{h:Heap}{g:Array GenState}{d:Drawn}{t:Nat}{os:OsState}
def Yl(F:ExcBaseFacts B newId initId bm)(hC:h.get? C=some đ) (hn:h.Ns N mN) (wq:mN "__init__"=some (.ref fI)) (hf:h.get? fI=some oF) (G1:oF.cls=.type "function")(hq:codeAny Ð A (.call (.ref fI) ⟨.ref (h.objs.size+1)::bG,[]⟩) (λr s'=>match r with
   |.ok (.ret v)=>v=.none∧Q (.done (.ret (.ref (h.objs.size+1)))) s'
   |.ok _=>False
   |.error e=>E e s') ⟨(h.push (nN bG)).push ł,g,d,t,os⟩) (hrest:bG.length≤sizeLine:=by size_fits):
  wpAny Ð A (Builtin.«type.__call__» ⟨.ref C::bG,[]⟩) Q E ⟨h,g,d,t,os⟩:=by
 repeat (first|with_reducible refine sW hC ?_|with_reducible refine wpAny_madeBy_exc hC ?_|wp_step)
 refine codeAny_call_builtin_code (Code.quiet_builtin _ F.quiet) (wpAny_check_new_sub F hC ?_);refine codeAny_exc_new_sub F hC ?_ hrest;have hC₁:=dh ł (dh (nN bG) hC);have hF₁:=dh ł (dh (nN bG) hf);have hn₁:((h.push (nN bG)).push ł).Ns N mN:=
  let ⟨o,es,ep,e,r⟩:=hn;⟨o,es,ep,dh _ (dh _ e),r⟩
 have Ym:((h.push (nN bG)).push ł).get? (h.objs.size+1)=some ł:=by heap_get
 have G2:(Value.ref C::bm).contains ý=true:=by simp
 unfold isInstance
 repeat (first|with_reducible refine sW Ym ?_|(with_reducible refine Od hC₁ ?_;rw[G2])|wp_step)
 refine W6 hC₁ hn₁ F.mroIs F.init.lookup ?_;rw[wq];refine W7 (aP ?_);unfold bindSpecial typeOf
 repeat (first|(with_reducible refine sW hF₁ ?_;rw[G1])|wp_step)
 refine wb hq λr s' z=>?_;rcases r with e|(_|v|_|_) <;> first|exact z|exact z.elim|skip
 all_goals (obtain⟨rfl,z⟩:=z;exact c7 (c7 z))
def Yn(F:ExcBaseFacts B newId initId bm)(hC:h.get? C=some đ) (hn:h.Ns N mN) (wq:mN "__init__"=some (.ref fI)) (hf:h.get? fI=some oF) (G1:oF.cls=.type "function")(hq:codeAny Ð (A.under (.builtin "type.__call__" ⟨.ref C::bG,[]⟩)) (.call (.ref fI) ⟨.ref (h.objs.size+1)::bG,[]⟩) (Yk (h.objs.size+1) R) ⟨(h.push (nN bG)).push ł,g,d,t,os⟩) (hrest:bG.length≤sizeLine:=by size_fits):
  codeAny Ð A (.call ý ⟨bG,[]⟩) R ⟨h,g,d,t,os⟩:=by
 have f1:=tc_lookup;have f2:=tc_bind ý;have hT:(⟨h,g,d,t,os⟩:Sh).TypeIs ý "type":=⟨_,hC,rfl⟩;refine codeAny_of_tree ?_
 repeat (any_goals (first|assumption|with_reducible refine sW hC ?_|wp_step))
 refine Ŕ;refine codeAny_call_builtin_at (Code.quiet_builtin _ È) entry_typeCall (wpAny_check_type_call_sub hC (Yl (hrest:=hrest) F hC hn wq hf G1 (wb hq λr s' z=>?_)));rcases r with e|(_|v|_|_) <;> exact z
end
section
def Yo(tu:bm.contains (.type "BaseException")=true)(hh:A.handled=none)(h:ſ x (λv s₁=>∃e oe vs,v=.ref e∧s₁.heap.get? C=some đ∧
   s₁.heap.get? e=some oe∧oe.cls=.ref C∧oe.data=.fields vs∧vs[1]? =some .none∧E Èi s₁) E s):
  wpAny M A (raiseStmt env (some x) none) Q E s:=by
 have G3:(Value.ref C::bm).contains (.type "BaseException")=true:=by rw[z4,tu,W8]
 unfold raiseStmt;refine aP (i6 h (λv s₁ h₁=>?_) λ_ _ x=>x);obtain⟨e,oe,vs,rfl,hC,he,Ah,hd,h1,hE⟩:=h₁;obtain⟨hp,g,d,tk,os⟩:=s₁;obtain⟨oc,od,G4,mG⟩:=oe;obtain rfl:oc=.ref C:=Ah;obtain rfl:G4=.fields vs:=hd
 repeat (first|with_reducible refine sW he ?_|with_reducible refine sW hC ?_|(with_reducible refine Od hC ?_;rw[G3])|wp_step)
 rw[h1];refine c7 ?_;rw[ah Ø];exact c7 (wpAny_raiseNew_none hh hE)
end
section
variable{prog:Pg}{w:Wd}{A:Around}{E:VP}{h:Heap}{g:Array GenState}{d:Drawn}{t:Nat}{os:OsState}
def Yp(F:ExcBaseFacts B newId initId bm)(hC:h.get? C=some ó) (hx:h.get? x=some oe) (hc:oe.cls=.ref C) (hd:oe.data=.fields vs) (hz:0<vs.size)(hq:Q .none ⟨(h.push (nN [])).update x (Obj.mapFields (·.setIfInBounds 0 (.ref h.objs.size))),g,d,t,os⟩):
  wpAny Ð A (call (.builtin initId) [.ref x]) Q E ⟨h,g,d,t,os⟩:=by
 have hx₁:=dh (nN []) hx;refine Cr (codeAny_call_builtin F.init.plain F.initEntry (wpAny_check_init_sub F hC hx hc ?_));unfold Builtin.«BaseException.__init__»
 repeat (any_goals (first|assumption|wp_step))
 rw[hd];refine c7 ?_;rw[show vs[0]? =some vs[0] from Array.getElem?_eq_getElem hz];refine c7 (aP (Cu hx₁ hd hz ?_));cases vs[0] <;> (wp_walk;exact hq)
end
end XL
end PySem
end
section
namespace PySem
namespace XL
structure G5(fr:LA)(z e T:Addr)(oe:Obj)(fl:Value)(h h':Heap):Prop where
 new:h.objs.size≤T
 ne:T≠e
 keep:∀b o,b∉fr→b≠e→b≠z→h.get? b=some o→h'.get? b=some o
 slot:∀b o,b∈fr→b≠e→b≠z→h.get? b=some o→∃sl,h'.get? b=some {o with slots:=sl}
 exc:h'.get? e=some (oe.mapFields (·.setIfInBounds 1 ū))
 ent:∃oT ts,h'.get? T=some oT∧oT.data=.fields ts∧ts[3]? =some fl
section
def OT{base:Heap}{env:Env}{outer:List Env}{L e z:Addr}{oe:Obj}{vs:Array Value}{head:Value}{hn:Bool}{Q:Unit→Shared→Prop}(fs:A.frames=some (env::outer)) (ff:s.heap.FunFrames base (env::outer)) (fL:env.frame=some L) (ge:s.heap.get? e=some oe) (de:oe.data=.fields vs) (ze:1<vs.size)(k:∀h' T,G5 ((env::outer).filterMap (·.frame)) z e T oe Æb s.heap h'→Q () {s with heap:=h'}):
  wpAny M A (do
   let a ←frameOf env
   let pl ←entryPlaceOf L hn
   let b ←EntryCells.newEntry head a .none Æb .none pl
   setField Èi 1 b) Q E s:=by
 have nf:e∉(env::outer).filterMap (·.frame):=λm=>by
  obtain⟨_,o,g1,g2⟩:=ff.mem m;simp_all
 refine aP (wpAny_frameOf_fun fs ff fL λg gs=>aP (wpAny_entryPlaceOf λpl hp=>?_));unfold EntryCells.newEntry newFields;refine aP (Oe ?_ (hp.sizeOk5 _ _ _ _ _));have g1:=(gs.2.1 e nf).trans ge;have g2:=dh (h:=g) {cls:=.type "traceback",dict:=none,data:=.fields ([head,.ref L,.none,rawInt L,.none]++(if pl.isEmpty then List.replicate 6 Value.none else pl)).toArray} g1;have te:=sX (di g1);refine Cu g2 de ze (k _ g.objs.size ⟨Cv gs.1.symm,te,λb o n1 n2 _ g3=>?_,λb o n1 n2 _ g3=>?_,?_,?_⟩)
 ·rw[z5 _ _ (dJ n2)];exact dh _ ((gs.2.1 b n1).trans g3)
 ·obtain⟨sl,g4⟩:=gs.2.2 b o g3;exact⟨sl,by rw[z5 _ _ (dJ n2)];exact dh _ g4⟩
 ·exact Cw _ g2 (Gr (uN de _))
 ·refine⟨_,_,(z5 _ _ (dJ te)).trans (g9 g rfl),rfl,?_⟩;rfl
def Yq{base:Heap}{env:Env}{outer:List Env}{L e z:Addr}{oe:Obj}{vs:Array Value}{Q:Unit→Shared→Prop}(fs:A.frames=some (env::outer)) (ff:s.heap.FunFrames base (env::outer)) (fL:env.frame=some L) (ge:s.heap.get? e=some oe) (de:oe.data=.fields vs) (h1:vs[1]? =some .none)(k:∀h' T,G5 ((env::outer).filterMap (·.frame)) z e T oe Æb s.heap h'→Q () {s with heap:=h'}):ſ (noteFrame Èi env) Q E s:=by
 unfold noteFrame;simp only[fL];refine aP (uO ge de h1 ?_);rw[ah Ø];exact OT fs ff fL ge de (z6.mp h1).1 k
def Yr{base:Heap}{env:Env}{outer:List Env}{L e z:Addr}{oe oz:Obj}{vs zs:Array Value}{Q:Unit→Shared→Prop}(fs:A.frames=some (env::outer)) (ff:s.heap.FunFrames base (env::outer)) (fL:env.frame=some L) (ge:s.heap.get? e=some oe) (de:oe.data=.fields vs) (h1:vs[1]? =some (.ref z))(gz:s.heap.get? z=some oz) (dz:oz.data=.fields zs) {fl:Value} (h3:zs[3]? =some fl) (fV:(fl==rawInt L)=false) (ez:z≠e)(k:∀h' T,G5 ((env::outer).filterMap (·.frame)) z e T oe Æb s.heap h'→T≠z→(∃o ts,h'.get? z=some o∧o.data=.fields ts∧ts[3]? =some .none)→Q () {s with heap:=h'}):ſ (noteFrame Èi env) Q E s:=by
 have zz:=(z6.mp h3).1;unfold noteFrame;simp only[fL];refine aP (uO ge de h1 ?_);rw[af (show(Value.ref z !=Value.none)=true by simp)];refine aP (uO gz dz h3 ?_);rw[ah (show ¬((fl==rawInt L)=true) by simp_all)];refine aP (Cu gz dz zz ?_);have uR:∀b,b≠z→(s.heap.update z (Obj.mapFields (·.setIfInBounds 3 Value.none))).get? b=s.heap.get? b:=λb n=>z5 _ _ (dJ n);have Ys:(s.heap.update z (Obj.mapFields (·.setIfInBounds 3 Value.none))).get? z=_:=Cw _ gz (Gr (uN dz _));have Yt:∀b o,s.heap.get? b=some o→(∀ws,o.data≠ .fields ws)→b≠z:=λb o g1 g2 q=>by
  simp_all
 have Yu:=ff.of_keeps (h':=s.heap.update z (Obj.mapFields (·.setIfInBounds 3 Value.none))) λb o g1 g2=>⟨o,(uR b (Yt b o g1 g2)).trans g1,rfl⟩;have Yv:z∉(env::outer).filterMap (·.frame):=λm=>by
  obtain⟨_,o,g1,g2⟩:=ff.mem m;simp_all
 refine OT (z:=e) fs Yu fL ((uR e (dJ ez)).trans ge) de (z6.mp h1).1 λh' T n=>?_;have nn:s.heap.objs.size≤T:=by
  have:=n.new;simp_all
 have tz:T≠z:=λq=>absurd (di gz) Ç;have C5:=n.keep z _ Yv ez ez Ys;exact k h' T ⟨nn,n.ne,λb o n1 n2 n3 g1=>n.keep b o n1 n2 n2 ((uR b n3).trans g1),λb o n1 n2 n3 g1=>n.slot b o n1 n2 n2 ((uR b n3).trans g1),n.exc,n.ent⟩ tz
  ⟨_,_,C5,uN dz _,by simp[zz]⟩
end
end XL
end PySem
end
section
namespace PySem
namespace XL
open Builtin.ObjectAttr
section
variable{prog:Pg}{w:Wd}{A:Around}{E:VP}{h:Heap}{g:Array GenState}{d:Drawn}{t:Nat}{os:OsState}
def Yw{tk:Tok}{o:Obj}{Q:Fin→Shared→Prop}(SF:StoreFacts B bm sa owner)(hC:h.get? C=some ó) (hn:h.Ns N mN) (tw:mN name=none) (hB:typeLookup (.type B) name=pure none)(gx:h.get? x=some o) (cx:o.cls=.ref C) (nx:∀c,o.data≠ .cls c) (dx:o.dict=none)(k:∀h' k7,h'.Ns1 h.objs.size (λy=>if y=name then some v else none)→h'.get? x=some {o with dict:=some h.objs.size}→(∀b ob,b≠x→h.get? b=some ob→h'.get? b=some ob)→Q (.done (.ret .none)) ⟨h',g,d,k7,os⟩):
  wpAny Ð A (Builtin.«object.__setattr__» ⟨[.ref x,.str name tk,v],[]⟩) Q E ⟨h,g,d,t,os⟩:=by
 have ps:=SF.passes Ū;unfold Builtin.«object.__setattr__»
 repeat (first|rw[refuse_eq]|(rw[refuseLoop_ref,ps])|(with_reducible refine sW gx ?_;rw[cx])|with_reducible refine wpAny_mroOf_exc hC ?_|(with_reducible refine W6 hC hn SF.mro hB ?_;rw[tw])|wp_step)
 rw[dx,ah (by simp[typeHasDict])];split
 ·simp_all
 split
 ·simp_all
 ·have OU:(h.push {cls:=.type "dict",data:=.dict #[]}).get? x=some o:=dh _ gx;have ne:=fU (di gx);refine aP (wpAny_alloc' (aP (wpAny_update' OU (c7 ?_))));have gd:((h.push {cls:=.type "dict",data:=.dict #[]}).update x λo=>{cls:=o.cls,dict:=some h.objs.size,data:=o.data,slots:=o.slots}).get? h.objs.size=some {cls:=.type "dict",data:=.dict #[]}:=
   (Heap.get?_update_ne _ _ _ _ ne.symm).trans (Heap.get?_push_at rfl rfl)
  have nd:((h.push {cls:=.type "dict",data:=.dict #[]}).update x λo=>{cls:=o.cls,dict:=some h.objs.size,data:=o.data,slots:=o.slots}).Ns h.objs.size (λ_=>none):=
   ⟨_,#[],_,gd,rfl,λe he=>absurd he Â,λ_=>rfl⟩
  unfold storeInDict newKeyGuard;refine aP (c7 (aP (wpAny_nsSet1 (Heap.Ns1.of_empty nd) λh' n' sb=>?_)));obtain⟨oD,eD,pD,g1,g2,g3⟩:=n'.count (Within.cons name v Within.nil);refine aP (wpAny_lookBehind g1 (by rw[g2];exact pastItsLine_dict (gW g3 (by rw[cZ,qU,wc];omega))) ?_)
  wp_walk
  refine k h' _ n' ?_ λb ob nb gb=>?_
  ·refine(sb.2 x ne).trans (Cw _ OU ?_);have fr:=(Heap.get?_some_iff.mp gx).2;obtain⟨oc,od,G4,mG⟩:=o;cases G4 <;> first|rfl|exact fr
  ·exact(sb.2 b (fU (di gb))).trans ((Heap.get?_update_ne _ _ _ _ nb).trans (dh _ gb))
def Yx{o:Obj}{Q:Unit→Shared→Prop}(SF:StoreFacts B bm sa owner)(hC:h.get? C=some ó) (hn:h.Ns N mN) (tF:mN "__setattr__"=none) (tw:mN name=none) (hB:typeLookup (.type B) name=pure none)(gx:h.get? x=some o) (cx:o.cls=.ref C) (nx:∀c,o.data≠ .cls c) (dx:o.dict=none)(k:∀h' k7,h'.Ns1 h.objs.size (λy=>if y=name then some v else none)→h'.get? x=some {o with dict:=some h.objs.size}→(∀b ob,b≠x→h.get? b=some ob→h'.get? b=some ob)→Q () ⟨h',g,d,k7,os⟩):
  wpAny Ð A Ãv Q E ⟨h,g,d,t,os⟩:=by
 have f3:=SF.slot.bind Ū;unfold setAttr callSpecial? specialOf
 repeat (any_goals (first|assumption|(with_reducible refine sW gx ?_;rw[cx])|(with_reducible refine W6 hC hn SF.mro SF.slot.lookup ?_;rw[tF])|wp_step))
 refine codeAny_call_builtin SF.slot.plain SF.entry (wpAny_check_sa SF hC gx cx (Yw SF hC hn tw hB gx cx nx dx λh' k7 a b c=>?_))
 repeat (any_goals (first|assumption|wp_step))
 exact k h' k7 a b c
def Yy{o:Obj}{dx:Addr}{mA:MG}{ns:LS}{Q:Unit→Shared→Prop}(SF:StoreFacts B bm sa owner)(hC:h.get? C=some ó) (hn:h.Ns N mN) (tF:mN "__setattr__"=none) (tw:mN name=none) (hB:typeLookup (.type B) name=pure none)(gx:h.get? x=some o) (cx:o.cls=.ref C) (nx:∀c,o.data≠ .cls c) (hd:o.dict=some dx) (ne:dx≠x) (hm:h.Ns1 dx mA) (hw:Within mA ns) (hz:ns.length≤sizeLine) (xC:x≠C)(k:∀h' k7,h'.Ns1 dx (λy=>if y=name then some v else mA y)→(∀b ob,b≠dx→h.get? b=some ob→h'.get? b=some ob)→Q () ⟨h',g,d,k7,os⟩):
  wpAny Ð A Ãv Q E ⟨h,g,d,t,os⟩:=by
 refine store_attr SF hC hn tF tw hB xC ⟨o,gx,cx,nx,.inr ⟨dx,hd,ne,hm⟩⟩ (λh' k7 I' kp sm=>?_) hw hz;obtain⟨o1,g1,p1,p2,p3,g5⟩:=sm o gx;obtain⟨o2,e1,_,_,e4⟩:=I';have eo:o1=o2:=aO (g1.symm.trans e1);subst eo;rcases e4 with ⟨e5,_⟩|⟨d2,e5,_,e6⟩
 ·rw[g5 dx hd] at e5;cases e5
 ·have ed:dx=d2:=aO ((g5 dx hd).symm.trans e5);subst ed;refine k h' k7 e6 λb ob nb gb=>?_;by_cases hb:b=x
  ·subst hb;have:ob=o:=aO (gb.symm.trans gx);subst this;have p4:=(g5 dx hd).trans hd.symm;refine g1.trans (cz some ?_);obtain⟨a1,a2,a3,a4⟩:=o1;obtain⟨b1,b2,b3,b4⟩:=ob;dsimp only at p1 p2 p3 p4;subst p1 p2 p3 p4;rfl
  ·exact kp b ob hb (λo0 d0 q1 q2 z=>nb (by
    have:o0=o:=aO (q1.symm.trans gx);subst this;rw[z];exact aO (q2.symm.trans hd))) gb
end
end XL
end PySem
end
section
namespace PySem
namespace XL
open AutoSeq1 (wpAny_loadPart')
section
def Yz{j t:Addr}{i:Nat}{aj:Array Value}{x:Value}{Q:VP}(hj:s.heap.IsTupleIter j t i)(ht:s.heap.IsTuple t aj)(hx:aj[i]? =some x)(k:∀h',h'.IsTupleIter j t (i+1)→Heap.SameBut j s.heap h'→Q x {s with heap:=h'}):wpAny Ð A (Builtin.SmallTypes.nextOf (.ref j)) Q E s:=by
 obtain⟨o,g1,c1,d1⟩:=id hj;obtain⟨p,g2,_,n,d2⟩:=ht;unfold Builtin.SmallTypes.nextOf;refine aP (wpAny_callSpecial?_slot (name:=Str.ofString "__next__") hj.typeIs Of (wpAny_call_entry Of hj.typeIs aol ?_ (aom _)));show wpAny _ _ (field (.ref j) 0 >>= _) _ _ s;refine aP (uO g1 d1 (x:=.ref t) rfl ?_);rw[ah (show ¬(Value.ref t==Value.none)=true from dZ)];refine aP (uO g1 d1 (x:=.int i 0) rfl ?_);refine aP (W9 g2 d2 ?_);simp only[Cy,hx];refine aP (Cu g1 d1 Â (c7 ⟨x,rfl,c7 (k _ ⟨_,Cw _ g1 (Gr (uN d1 _)),(Xa ..).trans c1,?_⟩ (Heap.SameBut.update ..))⟩));rw[uN d1];rfl
def YA{j t:Addr}{i:Nat}{aj:Array Value}{Q:VP}(hh:A.handled=none)(hj:s.heap.IsTupleIter j t i)(ht:s.heap.IsTuple t aj)(hx:aj[i]? =none)(k:∀h' e,Heap.ExtBut j s.heap h'→(∃o,h'.get? e=some o∧o.cls=.type "StopIteration")→E Èi {s with heap:=h'}):wpAny Ð A (Builtin.SmallTypes.nextOf (.ref j)) Q E s:=by
 obtain⟨o,g1,c1,d1⟩:=id hj;obtain⟨p,g2,_,n,d2⟩:=ht;unfold Builtin.SmallTypes.nextOf;refine aP (wpAny_callSpecial?_slot (name:=Str.ofString "__next__") hj.typeIs Of (wpAny_call_entry Of hj.typeIs aol ?_ (aom _)));show wpAny _ _ (field (.ref j) 0 >>= _) _ _ s;refine aP (uO g1 d1 (x:=.ref t) rfl ?_);rw[ah (show ¬(Value.ref t==Value.none)=true from dZ)];refine aP (uO g1 d1 (x:=.int i 0) rfl ?_);refine aP (W9 g2 d2 ?_);simp only[Cy,hx];refine aP (wpAny_rule (aP (Cu g1 d1 Â ?_)));show wpAny _ _ (newExc (.type "StopIteration") [] >>= _) _ _ _;simp only[newExc,newTuple];refine aP (aP (Oe ?_ (by size_fits)));refine aP (m:=firstArgMember _ _) (wpAny_of_eq (a:=Value.none) Ò (Oe ?_ (by size_fits)));simp only[raiseNew];refine aP (wpAny_handled ?_)
 first|rw[show A.in1.handled=none from hh]|rw[hh]
 exact aP (c7 (wpAny_throw (k _ _ (((Heap.SameBut.update ..).extBut.push _).push _) ⟨_,g9 _ rfl,rfl⟩)))
end
def OV{prog:Pg}{w:Wd}{A:Around}(hh:A.handled=none)(j t:Addr)(aQ:t≠j)(aj:Array Value):
  Draws prog w A j [j,t] aj.size (λi v=>aj[i]? =some v) (λi h=>h.IsTupleIter j t i∧h.IsTuple t aj) where
 live:=λ_ _ st=>let ⟨o,ho,_⟩:=st.1;⟨o,ho⟩
 frame:=λ_ _ _ st hk=>⟨st.1.at λo e=>hk j Â o e,let ⟨o,ho,r⟩:=st.2;⟨o,hk t Â o ho,r⟩⟩
 item:=λi s Q E hi st hQ=>Yz st.1 st.2 (x:=aj[i]) (by simp[hi]) λh' G6 yi=>hQ _ h' s.toks (by simp[hi]) ⟨G6,let ⟨o,ho,r⟩:=st.2;⟨o,(yi.2 t aQ).trans ho,r⟩⟩ yi
 done:=λs Q E st hE=>YA hh st.1 st.2 Â hE
def YB(t:Addr)(aj:Array Value)(n:Nat)(yj:OA)(sl:AO):
  Meets (Builtin.«enumerate.__new__» ⟨[.type "enumerate",.ref t],[]⟩) (λ_ R s=>s.heap.get? t=some {cls:=.type "tuple",dict:=yj,data:=.seq aj n,slots:=sl}∧
   R (.ok (.ret (.ref (s.heap.push {cls:=.type "tuple_iterator",data:=.fields #[.ref t,.int 0 0]}).objs.size)))
    {s with heap:=(s.heap.push {cls:=.type "tuple_iterator",data:=.fields #[.ref t,.int 0 0]}).push {cls:=.type "enumerate",data:=.fields #[.none,.bool false,.ref s.heap.objs.size,rawInt 0,.none,.none]}}):=
 .of_wp λprog w A R s h=>by
  obtain⟨hp,g,d,tk,os⟩:=s;obtain⟨hl,h⟩:=h;have Ai:=sub_enumerate;have hT:Heap.IsTuple (Shared.heap ⟨hp,g,d,tk,os⟩) t aj:=⟨_,hl,rfl,n,rfl⟩
  wp_walk using i7 hl
  refine wpAny_stack_any λst=>c7 ?_;split
  ·rename_i c _ _ _ _ _;cases (c==Value.type "enumerate")
   ·wp_walk using i7 hl,Xc hT
    exact⟨_,rfl,h⟩
   ·wp_walk using i7 hl,Xc hT
    exact⟨_,rfl,h⟩
  ·wp_walk using i7 hl,Xc hT
   exact⟨_,rfl,h⟩
section
def YC{t:Addr}{aj:Array Value}{Q:VP}(hT:s.heap.IsTuple t aj)(k:∀h',IsEnum h' Ö s.heap.objs.size 0 .none→h'.IsTupleIter s.heap.objs.size t 0→h'.objs.size=s.heap.objs.size+2→(∀b o,s.heap.get? b=some o→h'.get? b=some o)→Q (.ref Ö) {s with heap:=h'}):
  wpAny Ð A (call (.type "enumerate") [.ref t]) Q E s:=by
 obtain⟨⟨c,yj,dt,sl⟩,hl,hc,n,hd⟩:=hT;obtain rfl:c=.type "tuple":=hc;obtain rfl:dt=.seq aj n:=hd;refine callType_new F.called_enumerate Ø (F.typeCall_enumerate_1 _) (F.newCall_enumerate_1 _) (λobj=>F.args_object_init_2 obj _) F.entry_enumerate_new (YB t aj n yj sl) ⟨hl,?_⟩;have hz:(s.heap.push {cls:=.type "tuple_iterator",data:=.fields #[.ref t,.int 0 0]}).objs.size=s.heap.objs.size+1:=pY ..;show _∧_;rw[hz];have he:IsEnum ((s.heap.push {cls:=.type "tuple_iterator",data:=.fields #[.ref t,.int 0 0]}).push {cls:=.type "enumerate",data:=.fields #[.none,.bool false,.ref s.heap.objs.size,rawInt 0,.none,.none]}) Ö s.heap.objs.size 0 .none:=by
  have q:=g9 (s.heap.push {cls:=.type "tuple_iterator",data:=.fields #[.ref t,.int 0 0]}) (o:={cls:=.type "enumerate",data:=.fields #[.none,.bool false,.ref s.heap.objs.size,rawInt 0,.none,.none]}) rfl;rw[hz] at q;exact q
 exact⟨⟨_,he,rfl⟩,k _ he ⟨_,dh _ (g9 _ rfl),rfl,rfl⟩ (by rw[pY,hz]) λb o y=>dh _ (dh _ y)⟩
end
end XL
end PySem
end
section
namespace L2
open PySem PySem.Spec PyProof.Rows
abbrev Key:=Sum Int Str
abbrev dX:=List Key
def rj:Key→Value→Bool
 |.inl k,v=>Value.isInt k v
 |.inr x,v=>Value.isStrOf x v
def YD(w:Wd):Key→Int
 |.inl k=>hashInt k
 |.inr x=>hashStr w x
theorem rk:∀{k:Key}{v:Value},rj k v=true→(∃i t,k=Sum.inl i∧v=Value.int i t)∨(∃x t,k=Sum.inr x∧v=Value.str x t)
 |.inl i,v,h=>by
  obtain⟨t,e⟩:=Value.isInt_shape (k:=i) (v:=v) h;exact .inl ⟨i,t,rfl,e⟩
 |.inr x,v,h=>by
  obtain⟨t,e⟩:=Value.isStrOf_shape (x:=x) (v:=v) h;exact .inr ⟨x,t,rfl,e⟩
def YE(i:Int)(t:Tok):rj (.inl i) Áo=true:=by simp[rj,Value.isInt]
def YF(x:Str)(t:Tok):rj (.inr x) (.str x t)=true:=by simp[rj,Value.isStrOf]
def YG(a b:Int):decide ((Sum.inl a:Key)=Sum.inl b)=(a==b):=by
 grind
def YH(a b:Str):decide ((Sum.inr a:Key)=Sum.inr b)=decide (a=b):=by
 simp
def YI(a:Int)(b:Str):decide ((Sum.inl a:Key)=Sum.inr b)=false:=fC (λq=>nomatch q)
def YJ(a:Str)(b:Int):decide ((Sum.inr a:Key)=Sum.inl b)=false:=fC (λq=>nomatch q)
def eU(prog:Pg)(w:Wd):PySem.KeyKind prog w Key where
 is:=rj
 hash:=YD w
 inj:=λv a b ha hb=>by
  rcases rk ha with ⟨i,t,rfl,rfl⟩|⟨x,t,rfl,rfl⟩
  ·rcases rk hb with ⟨j,u,rfl,e⟩|⟨y,u,rfl,e⟩
   ·injection e with e1 _;rw[e1]
   ·exact nomatch e
  ·rcases rk hb with ⟨j,u,rfl,e⟩|⟨y,u,rfl,e⟩
   ·exact nomatch e
   ·injection e with e1 _;rw[e1]
 byValue:=λk v h=>by
  rcases rk h with ⟨i,t,rfl,rfl⟩|⟨x,t,rfl,rfl⟩ <;> rfl
 pyHash:=λhv h=>by
  rcases rk hv with ⟨i,t,rfl,rfl⟩|⟨x,t,rfl,rfl⟩
  ·exact wpAny_pyHash_int h
  ·exact wpAny_pyHash_str h
 eqBool:=λhu hv h=>by
  rcases rk hu with ⟨i,t,rfl,rfl⟩|⟨x,t,rfl,rfl⟩
  ·rcases rk hv with ⟨j,u,rfl,rfl⟩|⟨y,u,rfl,rfl⟩
   ·rw[YG] at h;exact wpAny_eqBool_int h
   ·rw[YI] at h;exact SeqAt.EqAt.int_str i t y u _ _ _ _ h
  ·rcases rk hv with ⟨j,u,rfl,rfl⟩|⟨y,u,rfl,rfl⟩
   ·rw[YJ] at h;exact SeqAt.EqAt.str_int x t j u _ _ _ _ h
   ·rw[YH] at h;exact wpAny_eqBool_str h
 «strs»:=λk x t v h=>by
  rcases rk h with ⟨i,u,rfl,e⟩|⟨y,u,rfl,e⟩
  ·exact nomatch e
  ·injection e with e1 _;subst e1;cases v <;> rfl
def YK(prog:Pg)(w:Wd)(i:Int)(t:Tok):(eU prog w).is (.inl i) Áo=true:=YE i t
def YL(prog:Pg)(w:Wd)(x:Str)(t:Tok):(eU prog w).is (.inr x) (.str x t)=true:=YF x t
end L2
namespace L2
open PySem PySem.Spec PyProof.Rows
inductive V where
 |aJ|bl (b:Bool)|int (i:Int)|str (x:Str)|ja (b:Array UInt8)|Aj (b:UInt64)|ref (a:Addr)|ty (n:String)
 deriving DecidableEq
abbrev aq:=List V
def RelV:V→Value→Prop
 |.aJ,u=>u=Value.none
 |.bl b,u=>u=Value.bool b
 |.int i,u=>∃t,u=Value.int i t
 |.str x,u=>∃t,u=Value.str x t
 |.ja b,u=>∃t,u=Value.bytes b t
 |.Aj b,u=>∃t,u=Value.float b t
 |.ref a,u=>u=Value.ref a
 |.ty n,u=>u=Value.type n
abbrev ba:aq→LV→Prop:=Paired RelV
def ba.length{xs:aq}{us:LV}(r:ba xs us):xs.length=us.length:=Paired.length r
theorem ba.get:∀{xs:aq}{us:LV}{i:Nat}{x:V},ba xs us→xs[i]? =some x→∃u,us[i]? =some u∧RelV x u:=by
 intro xs us i x h;induction h generalizing i with
 |nil=>intro e;simp at e
 |cons r t ih=>
  intro e;cases i with
  |zero=>simp at e;subst e;exact⟨_,rfl,r⟩
  |succ i=>exact ih e
theorem ba.append:∀{xs ys:aq}{us ws:LV},ba xs us→ba ys ws→ba (xs++ys) (us++ws):=by
 intro xs ys us ws h0;induction h0 with
 |nil=>exact @λs=>s
 |cons r t ih=>
  intro s;exact .cons r (ih s)
theorem ba.take:∀{xs:aq}{us:LV}(n:Nat),ba xs us→ba (xs.take n) (us.take n):=by
 intro xs us n h;induction h generalizing n with
 |nil=>cases n <;> exact .nil
 |cons r t ih=>
  cases n with
  |zero=>exact .nil
  |succ n=>exact .cons r (ih n)
theorem ba.drop:∀{xs:aq}{us:LV}(n:Nat),ba xs us→ba (xs.drop n) (us.drop n):=by
 intro xs us n h;induction h generalizing n with
 |nil=>cases n <;> exact .nil
 |cons r t ih=>
  cases n with
  |zero=>exact .cons r t
  |succ n=>exact ih n
def jH:Option V→Option Value→Prop
 |some v,some u=>RelV v u
 |none,none=>True
 |_,_=>False
def KV{κ:Type}:List (κ×V)→List (κ×Value)→Prop:=Paired λ(p:κ×V)(q:κ×Value)=>p.1=q.1∧RelV p.2 q.2
def kV:Key→V
 |.inl i=>.int i
 |.inr x=>.str x
inductive HO where
 |lst (xs:aq)
 |tup (xs:aq)
 |dK (kvs:List (Key×V))|dT (kvs:List (dX×V))
 |set (S:Int→Bool) (n:Nat)
 |ins (C dx:Addr) (fs:List (Str×V))
 |own (x:Addr)
 |xd (fs:List (Str×V))
 |met (f x:Addr)
 |rl (lo hi:Int)
 |ck (o:Obj) (u:HO)
 |gD (ps:Array Value)
 |ext (φ:Heap→Prop)
abbrev Hp:=Addr→Option HO
def upd(H:Hp)(a:Addr)(o:HO):Hp:=λb=>if b=a then some o else H b
def ao{H:Hp}{a:Addr}{o:HO}:Ŧ o a=some o:=by unfold upd;rw[af rfl]
def au{H:Hp}{a b:Addr}{o:HO}(h:b≠a):Ŧ o b=H b:=by unfold upd;rw[ah h]
def OW{H:Hp}{a b:Addr}{o u:HO}(h:H a=some o)(h':H b=some u)(d:o≠u):a≠b:=by
 grind
def eN{H:Hp}{a b:Addr}{o:HO}(h:H a=some o)(h':H b=none):a≠b:=by
 grind
section
variable(P:Pg)(w:Wd)
def fm(H:Hp)(h:Heap)(a:Addr):HO→Prop
 |.lst xs=>xs.length≤sizeLine∧∃(aj:LV)(n:Nat),ba xs aj∧h.get? a=some {cls:=.type "list",data:=.seq aj.toArray n}
 |.tup xs=>xs.length≤sizeLine∧∃aj:LV,ba xs aj∧IsTup h a aj.toArray
 |.dK kvs=>kvs.length≤sizeLine∧(a==sysModules)=false∧∃vs,KV kvs vs∧h.DictOf Âl a vs
 |.dT kvs=>kvs.length≤sizeLine∧(a==sysModules)=false∧∃xs:List (dX×Addr×Value),
   Paired (λ(p:dX×V)(q:dX×Addr×Value)=>p.1=q.1∧H q.2.1=some (.tup (p.1.map kV))∧RelV p.2 q.2.2) kvs xs∧
   ∃o es ep,h.get? a=some o∧o.ExactDict∧o.data=.dict es ep∧es.toList=xs.map (entryOfKey Çc)∧(xs.map (·.1)).Nodup
 |.set S n=>h.SetOf (intKind P w) a S n
 |.ins C dx fs=>H dx=some (.own a)∧fs.length≤1000∧dx≠a∧h.get? a=some Âp∧
   ∃mA,h.Ns1 dx mA∧(∀f,jH Ày (mA f))∧PySem.Within mA (fs.map (·.1))
 |.own _=>∃o,h.get? a=some o
 |.xd fs=>∃mA,h.Ns1 a mA∧∀f,jH Ày (mA f)
 |.rl lo hi=>∃t u v,h.get? a=some {cls:=.type "range",data:=.fields #[.int lo t,.int hi u,.int 1 v]}
 |.ck o u=>h.get? a=some o∧fm H h a u
 |.gD ps=>h.get? a=some {cls:=.none,data:=.fields ps}
 |.met f x=>h.get? a=some (PySem.W.methodObj ą Ū)
 |.ext φ=>φ h∧(∃o,h.get? a=some o)∧∀h1 h2:Heap,φ h1→(∀o,h1.get? a=some o→h2.get? a=some o)→φ h2
def eO(H:Hp)(h:Heap):Prop:=∀a o,H a=some o→Às o
end
section
theorem fm.lt(x:Às o):a<h.objs.size:=by
 cases o with
 |lst xs=>obtain⟨_,_,_,_,e⟩:=x;exact di e
 |tup xs=>obtain⟨_,_,_,p⟩:=x;exact p.lt
 |dK kvs=>obtain⟨_,_,_,_,o,_,_,e,_⟩:=x;exact di e
 |dT kvs=>obtain⟨_,_,_,_,o,_,_,e,_⟩:=x;exact di e
 |set S n=>obtain⟨o,_,_,_,e,_⟩:=x;exact di e
 |ins C dx fs=>obtain⟨_,_,_,e,_⟩:=x;exact di e
 |own y=>obtain⟨_,e⟩:=x;exact di e
 |xd fs=>obtain⟨_,⟨_,_,_,e,_⟩,_⟩:=x;exact di e
 |rl lo hi=>obtain⟨_,_,_,e⟩:=x;exact di e
 |ck ob u=>obtain⟨e,_⟩:=x;exact di e
 |gD ps=>exact di (show h.get? a=some _ from x)
 |met f y=>exact di (show h.get? a=some _ from x)
 |ext φ=>obtain⟨_,⟨_,e⟩,_⟩:=x;exact di e
theorem Paired.lG{α β:Type}{F G:α→β→Prop}:∀{l₁:List α}{l₂:List β},Paired F l₁ l₂→(∀a b,F a b→G a b)→Paired G l₁ l₂:=by
 intro l₁ l₂ h0;induction h0 with
 |nil=>exact @λ_=>.nil
 |cons r t ih=>
  intro f;exact .cons (f _ _ r) (ih f)
theorem fm.oR(x:Às o)(k:∀b u,(b=a∨H b=some (.own a))→h.get? b=some u→h'.get? b=some u)(ho:∀b,H b=some (.own a)→H' b=some (.own a)) (ht:∀b xs,H b=some ϰ→H' b=some ϰ):fm P w H' h' a o:=by
 induction o with
 |lst xs=>obtain⟨z,aj,n,r,e⟩:=x;exact⟨z,aj,n,r,k _ _ Ą e⟩
 |tup xs=>obtain⟨z,aj,r,ob,e,c⟩:=x;exact⟨z,aj,r,ob,k _ _ Ą e,c⟩
 |dK kvs=>obtain⟨z,y,vs,r,ob,es,ep,e,c⟩:=x;exact⟨z,y,vs,r,ob,es,ep,k _ _ Ą e,c⟩
 |dT kvs=>
  obtain⟨z,y,xs,r,ob,es,ep,e,c⟩:=x;exact⟨z,y,xs,Paired.lG r λp q z=>⟨z.1,ht _ _ z.2.1,z.2.2⟩,ob,es,ep,k _ _ Ą e,c⟩
 |set S n=>obtain⟨ob,es,ep,t,e,c⟩:=x;exact⟨ob,es,ep,t,k _ _ Ą e,c⟩
 |ins C dx fs=>
  obtain⟨d,z,ne,e,mA,⟨od,es,ep,e2,c⟩,r⟩:=x;exact⟨ho _ d,z,ne,k _ _ Ą e,mA,⟨od,es,ep,k _ _ (.inr d) e2,c⟩,r⟩
 |own y=>obtain⟨ob,e⟩:=x;exact⟨ob,k _ _ Ą e⟩
 |xd fs=>obtain⟨mA,⟨od,es,ep,e,c⟩,r⟩:=x;exact⟨mA,⟨od,es,ep,k _ _ Ą e,c⟩,r⟩
 |rl lo hi=>obtain⟨t,u,v,e⟩:=x;exact⟨t,u,v,k _ _ Ą e⟩
 |ck ob u ih=>obtain⟨e,q⟩:=x;exact⟨k _ _ Ą e,ih q⟩
 |gD ps=>
  have e:h.get? a=some {cls:=.none,data:=.fields ps}:=x;show h'.get? a=some {cls:=.none,data:=.fields ps};simp_all
 |met f y=>
  have e:h.get? a=some (PySem.W.methodObj ą (.ref y)):=x;show h'.get? a=some (PySem.W.methodObj ą (.ref y));simp_all
 |ext φ=>obtain⟨p,⟨o,e⟩,st⟩:=x;exact⟨st _ _ p λo q=>k _ _ Ą q,⟨o,k _ _ Ą e⟩,st⟩
def eO.lt(x:Į h)(e:H a=some o):a<h.objs.size:=(x a o e).lt
theorem eO.fresh(x:Į h)(e:h.objs.size≤a):H a=none:=by
 cases q:H a with
 |none=>rfl
 |some u=>exact absurd (i8 (x.lt q) e) (qV _)
def eO.kept(x:Į h)(k:∀b u,h.get? b=some u→h'.get? b=some u):Į h':=λa o e=>
 (x a o e).oR (λb u _ q=>k b u q) (λ_ q=>q) λ_ _ q=>q
def eO.laid(x:Į h)(k:∀b u,h.get? b=some u→h'.get? b=some u)(hp:h.objs.size≤a)(new:fm P w (Ŧ o) h' a o):eO P w (Ŧ o) h':=λb u e=>by
 have hn:=x.fresh hp;by_cases hb:b=a
 ·subst hb;rw[ao] at e;cases e;exact new
 ·rw[au hb] at e;exact(x b u e).oR (λc v _ q=>k c v q) (λc q=>by rw[au Äe];exact q) λc xs q=>by rw[au Äe];exact q
end
def Rd(H:Hp)(a:Addr)(u:HO):Prop:=H a=some u∨∃o,H a=some Èl
def Rd.ok(r:Rd H a u)(x:Į h):Às u:=by
 rcases r with r|⟨o,r⟩
 ·exact x a u r
 ·obtain⟨_,q⟩:=x a _ r;exact q
def tG:Option HO→Prop
 |some (.lst _)=>True
 |some (.dK _)=>True
 |some (.dT _)=>True
 |some (.set _ _)=>True
 |some (.ins _ _ _)=>True
 |some (.ext _)=>True
 |_=>False
section
def eO.write(ok:Į h)(mu:tG (H x))(he:e=x∨H e=some Äs)(k:∀b u,b≠e→h.get? b=some u→h'.get? b=some u)(Ak:∃u,h'.get? e=some u)(new:fm P w (Áa o') h' x o'):eO P w (Áa o') h':=λb u q=>by
 have YM:∀c y,H c=some (.own y)→c≠x:=λc y r z=>by subst z;rw[r] at mu;exact mu
 have YN:∀c xs,H c=some ϰ→c≠x:=λc xs r z=>by subst z;rw[r] at mu;exact mu
 by_cases hb:b=x
 ·subst hb;rw[ao] at q;cases q;exact new
 ·rw[au hb] at q;by_cases Al:b=e
  ·have q':H b=some Äs:=by
    simp_all
   rw[q] at q';cases q';obtain⟨v,hv⟩:=Ak;exact⟨v,by simp_all⟩
  ·refine(ok b u q).oR (λc v hc r=>k c v ?_ r) (λc r=>by rw[au (YM c b r)];exact r) λc xs r=>by rw[au (YN c xs r)];exact r
   grind
end
structure Un(fs ex:LA)(H H':Hp)(h h':Heap):Prop where
 keep:∀b o,h.get? b=some o→H b=none→b∉fs→b∉ex→h'.get? b=some o
 slot:∀b o,h.get? b=some o→H b=none→b∈fs→b∉ex→∃sl,h'.get? b=some {o with slots:=sl}
 free:∀b o,h.get? b=some o→H b=none→b∉ex→H' b=none
 there:∀b o,h.get? b=some o→b∉ex→∃o',h'.get? b=some o'
 tH:∀b xs,H b=some ϰ→H' b=some ϰ
 qd:∀b o u,H b=some Èl→H' b=some Èl
 tI:∀b ps,H b=some (.gD ps)→∃i4,H' b=some (.gD (ps++i4))
section
def Un.any(u:Un fs ex H H1 h h1){b:Addr}{ob:Obj}(q:h.get? b=some ob)(n:H b=none)(hx:b∉ex):∃sl,h1.get? b=some {ob with slots:=sl}:=by
 by_cases hb:b∈fs
 ·exact u.slot b ob q n hb hx
 ·exact⟨ob.slots,u.keep b ob q n hb hx⟩
def Un.kept(k:∀b u,h.get? b=some u→h'.get? b=some u):Un fs ex H H h h':=
 ⟨λb ob q _ _ _=>k b ob q,λb ob q _ _ _=>⟨ob.slots,k b ob q⟩,λ_ _ _ n _=>n,λb ob q _=>⟨ob,k b ob q⟩,λ_ _ q=>q,λ_ _ _ q=>q,λ_ ps q=>⟨#[],by rw[q];simp⟩⟩
def Un.refl:Un fs ex H H h h:=Un.kept λ_ _ q=>q
def Un.laid(k:∀b u,h.get? b=some u→h'.get? b=some u)(hp:h.objs.size≤a)(hn:H a=none):Un fs ex H (Ŧ o) h h' where
 keep:=λb u q _ _ _=>k b u q
 slot:=λb u q _ _ _=>⟨u.slots,k b u q⟩
 free:=λb u q n _=>by rw[au (fU (i8 (di q) hp))];exact n
 there:=λb u q _=>⟨u,k b u q⟩
 tH:=λb xs q=>by rw[au Äe];exact q
 qd:=λb u xs q=>by rw[au Äe];exact q
 tI:=λb ps q=>⟨#[],by rw[au Äe,q];simp⟩
def Un.write(mu:tG (H x))(he:e=x∨H e=some Äs)(k:∀b u,b≠e→h.get? b=some u→h'.get? b=some u)(Ak:∃u,h'.get? e=some u):Un fs ex H (Áa o) h h':=by
 have hx:∀b,H b=none→b≠x:=λb n z=>by subst z;rw[n] at mu;exact mu
 have hb:∀b,H b=none→b≠e:=λb n z=>by
  simp_all
 have hm:∀b u,H b=some u→¬tG Çz→b≠x:=λb u q nm z=>by subst z;rw[q] at mu;exact nm mu
 refine⟨λb u q n _ _=>k b u (hb b n) q,λb u q n _ _=>⟨u.slots,k b u (hb b n) q⟩,λb u q n _=>by rw[au (hx b n)];exact n,λb u q _=>?_,
  λb xs q=>by rw[au (hm b _ q λz=>z)];exact q,λb u xs q=>by rw[au (hm b _ q λz=>z)];exact q,λb ps q=>⟨#[],by rw[au (hm b _ q λz=>z),q];simp⟩⟩
 grind
end
def C6(h:Heap)(H:Hp):LA:=(List.range h.objs.size).filter λa=>(H a).isSome
def tJ(h:Heap)(H:Hp):Heap:=PySem.W.hideAll h (C6 h H)
def YO(h:Heap)(H:Hp):(tJ h H).objs.size=h.objs.size:=PySem.W.hideAll_size _ _
def YQ(e:h.get? b=some o)(n:H b=none):(tJ h H).get? b=some o:=
 PySem.W.hideAll_get _ e λhm=>by
  have q:(H b).isSome=true:=(j3.mp hm).2;rw[n] at q;simp at q
def YR(e:(tJ h H).get? b=some o):h.get? b=some o∧H b=none:=by
 have e':h.get? b=some o:=PySem.W.of_hideAll (C6 h H) e;refine⟨e',?_⟩;cases q:H b with
 |none=>rfl
 |some x=>
  have hm:b∈C6 h H:=j3.mpr ⟨z7.mpr (di e'),by simp[q]⟩;have z:(tJ h H).get? b=none:=PySem.W.hideAll_none (C6 h H) hm;simp_all
end L2
namespace L2
open PySem PySem.Spec PyProof.Rows
structure Mod(K:FR)(mg:MG)(base:Heap):Prop where
 uS:K.In base
 glob:base.Ns mainGlobals mg
 blt:∃mb,base.Ns builtinsNs mb∧∀x:Str,x≠"__name__"→mb x=bootBuiltins x
 nolimit:base.NoLimit
structure Cx where
 prog:Program
 w:World
 K:FR
 mg:Str→Option Value
 base:Heap
 A:Around
 N:LS
 jb:Shared
 wt:Hp
 env:Env
 outer:List Env
 stack:List Env
 ex:LA
 fn:Str→Bool
 calm:Bool
 pn:bI
 xe:VP
def nO(l:List Env):LA:=l.filterMap (·.frame)
abbrev Cx.fs(X:Cx):LA:=nO X.outer
def wu(sc:Scope)(x:Str):Prop:=sc.names.lookup x=some .local∨sc.names.lookup x=some .cell∨sc.names.lookup x=some .free
def Loc(sc:Scope)(x:Str):Prop:=sc.names.lookup x=some .local∨sc.names.lookup x=some .cell
def Look(env:Env)(h:Heap)(m:MG)(x:Str)(u:Value):Prop:=
 (env.kindOf x=some .local∧m x=some u)∨((env.kindOf x=some .cell∨env.kindOf x=some .free)∧∃c,env.cells.lookup x=some c∧h.IsCell c Çz)
structure Cx.Ok(X:Cx):Prop where
 mod:Mod X.K X.mg X.base
 kind:X.env.scope.kind=.function
 glob:X.env.globals=mainGlobals
 blt:X.env.builtins=builtinsNs
 above:X.jb.heap.objs.size≤X.env.locals
 inj:∀x y c,X.env.cells.lookup x=some c→X.env.cells.lookup y=some c→x=y
 has:∀x,(X.env.kindOf x=some .cell∨X.env.kindOf x=some .free)→∃c,X.env.cells.lookup x=some c
 yk:∀x c,X.fn x=true→X.env.cells.lookup x=some c→X.jb.heap.objs.size≤c
 hd:X.calm=true→X.A.handled=none
 frames:X.A.frames=some X.stack
 Am:X.stack=X.outer∨(X.stack=X.env::X.outer∧X.env.frame=some X.env.locals)
 An:∀b∈X.ex,b≠X.env.locals∧∀x c,X.env.cells.lookup x=some c→c≠b
 bs:∀b o,X.base.get? b=some o→X.jb.heap.get? b=some o∧X.wt b=none
 qe:X.base.objs.size≤X.jb.heap.objs.size
 yl:∀b o,X.base.get? b=some o→b∉X.ex
 ym:∀b∈X.ex,b∉X.fs
 nP:X.jb.heap.FunFrames X.base X.outer
 uT:∀b∈X.fs,X.wt b=none
structure Inv(X:Cx)(pins:bI)(σ:List (Option V))(H:Hp)(s:Sh):Prop where
 ok:X.Ok
 os:s.os=X.jb.os
 bare:AllBare s.gens
 base:Un X.fs X.ex X.wt H X.jb.heap s.heap
 loc:∃m,s.heap.Ns X.env.locals m∧∀(i:Nat)(x:Str)(v:V),X.N[i]? =some x→σ[i]? =some Än→wu X.env.scope x→∃u,RelV v u∧Look X.env s.heap m x u
 cell:∀x c,X.env.cells.lookup x=some c→∃v,s.heap.IsCell c v
 free:H X.env.locals=none
 lH:∀x c,X.env.cells.lookup x=some c→H c=none
 pin:∀p∈X.pn++pins,s.heap.get? p.1=some p.2∧H p.1=none∧p.1≠X.env.locals∧p.1∉X.fs∧∀v,p.2.data≠ .cell v
 ax:Àa H s.heap
 len:σ.length=X.N.length
section
variable{X:Cx}{pins:bI}{σ:List (Option V)}{H H':Hp}{s:Sh}{h':Heap}
def Cx.Ok.YS(ok:X.Ok)(e:X.base.get? b=some o):b∉X.fs:=λhb=>by
 have:=(ok.nP.mem hb).1;simp_all
def Inv.bs(I:Á H s):∀b o,X.base.get? b=some o→s.heap.get? b=some o∧H b=none:=λb o e=>
 ⟨I.base.keep b o (I.ok.bs b o e).1 (I.ok.bs b o e).2 (I.ok.YS e) (I.ok.yl b o e),I.base.free b o (I.ok.bs b o e).1 (I.ok.bs b o e).2 (I.ok.yl b o e)⟩
def Inv.bk(I:Á H s):∀b o,X.base.get? b=some o→s.heap.get? b=some o:=λb o e=>(I.bs b o e).1
def Inv.mod(I:Á H s):Mod X.K X.mg X.base:=I.ok.mod
def Inv.fW(I:Á H s):X.K.In s.heap:=I.ok.mod.uS.keeps I.bk
def Inv.fr(I:Á H s):∃m,Fr X.base X.env.locals s.heap m:=
 let ⟨m,hn,_⟩:=I.loc
 ⟨m,hn,I.bk,gW I.ok.qe I.ok.above⟩
def Inv.lt(I:Á H s):X.env.locals<s.heap.objs.size:=let ⟨_,hn,_⟩:=I.loc;hn.lt
def Inv.sz(I:Á H s):X.jb.heap.objs.size≤s.heap.objs.size:=gW I.ok.above (sY I.lt)
def Inv.YT(I:Á H s)(h:s.heap.objs.size≤a):a∉X.fs:=λhb=>by
 obtain⟨_,o,ho,_⟩:=I.ok.nP.mem hb;exact absurd (i8 (di ho) (gW I.sz h)) (qV _)
def Inv.wx(I:Á H s):∀x c,X.env.cells.lookup x=some c→c≠X.env.locals:=λx c e z=>by
 obtain⟨v,o,ho,hd⟩:=I.cell x c e;obtain⟨m,⟨o',es,ep,oS,oU,_⟩,_⟩:=I.loc;simp_all
def Inv.nP(I:Á H s):s.heap.FunFrames X.base X.outer:=by
 have all:∀(l:List Env),(∀b∈nO l,b∈X.fs)→X.jb.heap.FunFrames X.base l→s.heap.FunFrames X.base l:=by
  intro l;induction l with
  |nil=>intro _ _;trivial
  |cons env r ih=>
   intro hs hl;obtain⟨hk,⟨L,o,hf,hn,ho,hd⟩,hr⟩:=hl;have hL:L∈X.fs:=hs L (by unfold nO;rw[Cz,hf];exact gu);obtain⟨sl,e⟩:=I.base.slot L o ho (I.ok.uT L hL) hL λz=>I.ok.ym L z hL;exact⟨hk,⟨L,_,hf,hn,e,hd⟩,ih (λb hb=>hs b (by unfold nO;rw[Cz,hf];exact aN _ hb)) hr⟩
 exact all X.outer (λ_ hb=>hb) I.ok.nP
def Inv.stack(I:Á H s):s.heap.FunFrames X.base X.stack:=by
 rcases I.ok.Am with e|⟨e,hf⟩
 ·rw[e];exact I.nP
 ·rw[e];obtain⟨m,hn,_⟩:=I.loc;refine .cons (by rw[I.ok.kind];decide) hf hn ?_ I.nP;exact Og (gW I.ok.qe I.ok.above)
def Inv.G7(I:Á H s):∀b∈nO X.stack,b∈X.env.locals::X.fs:=λb hb=>by
 rcases I.ok.Am with e|⟨e,hf⟩
 ·simp_all
 ·rw[e] at hb;unfold nO at hb;rw[Cz,hf] at hb;exact hb
def Inv.C7(I:Á H s):∀b∈nO X.stack,H b=none:=λb hb=>by
 rcases bf.mp (I.G7 b hb) with e|hb
 ·rw[e];exact I.free
 ·obtain⟨_,o,ho,_⟩:=I.ok.nP.mem hb;exact I.base.free b o ho (I.ok.uT b hb) λz=>I.ok.ym b z hb
def Inv.step{g':Array GenState}{t':Nat}{d':Drawn}{ch:LA}(I:Á H s)(nQ:∀b∈ch,(b∈X.ex∨X.jb.heap.objs.size≤b)∧b≠X.env.locals∧(∀x c,X.env.cells.lookup x=some c→c≠b)∧∀p∈X.pn++pins,p.1≠b)(keep:∀b o,b≠X.env.locals→b∉X.fs→b∉ch→s.heap.get? b=some o→H b=none→h'.get? b=some o)(slot:∀b o,b≠X.env.locals→b∈X.fs→b∉ch→s.heap.get? b=some o→H b=none→∃sl,h'.get? b=some {o with slots:=sl}) (free:∀b o,b∉ch→s.heap.get? b=some o→H b=none→H' b=none)(there:∀b o,b∉ch→s.heap.get? b=some o→∃o',h'.get? b=some o')(tH:∀b xs,H b=some ϰ→H' b=some ϰ) (qd:∀b o u,H b=some Èl→H' b=some Èl) (tI:∀b ps,H b=some (.gD ps)→∃i4,H' b=some (.gD (ps++i4)))(ns:∀m,s.heap.Ns X.env.locals m→h'.Ns X.env.locals m) (ax:Àa H' h') (hg:AllBare g'):
  Inv X pins σ H' {s with heap:=h',gens:=g',drawn:=d',toks:=t'}:=by
 have OX:∀b o,X.jb.heap.get? b=some o→b≠X.env.locals:=λb o e=>fU ϴ;have G8:∀b o,X.jb.heap.get? b=some o→b∉X.ex→b∉ch:=λb o e hx hb=>by
  rcases(nQ b hb).1 with z|z
  ·simp_all
  ·exact absurd (i8 (di e) z) (qV _)
 have aoa:∀x c,X.env.cells.lookup x=some c→∀v,s.heap.IsCell c v→h'.IsCell c v:=λx c e v ⟨o,ho,hd⟩=>by
  have Ao:c∉ch:=λz=>(nQ c z).2.2.1 x c e rfl;by_cases hc:c∈X.fs
  ·obtain⟨sl,q⟩:=slot c o (I.wx x c e) hc Ao ho Æu;exact⟨_,q,hd⟩
  ·exact⟨o,keep c o (I.wx x c e) hc Ao ho Æu,hd⟩
 refine⟨I.ok,I.os,hg,⟨λb o e n hb hx=>?_,λb o e n hb hx=>?_,λb o e n hx=>?_,λb o e hx=>?_,λb xs e=>tH b xs (I.base.tH b xs e),λb o xs e=>qd b o xs (I.base.qd b o xs e),λb ps e=>?_⟩,?_,λx c e=>?_,?_,λx c e=>?_,λp hp=>?_,ax,I.len⟩
 ·exact keep b o (OX b o e) hb (G8 b o e hx) Àr Ϥ
 ·obtain⟨sl,e1⟩:=I.base.slot b o e n hb hx;obtain⟨sl',e2⟩:=slot b _ (OX b o e) hb (G8 b o e hx) e1 Ϥ;simp_all
 ·obtain⟨o',e1⟩:=I.base.there b o e hx;exact free b o' (G8 b o e hx) e1 Ϥ
 ·obtain⟨o',e1⟩:=I.base.there b o e hx;simp_all
 ·obtain⟨m1,e1⟩:=I.base.tI b ps e;grind
 ·obtain⟨m,hn,hl⟩:=I.loc;refine⟨m,ns m hn,λi x v e1 e2 e3=>?_⟩;obtain⟨u,r,l⟩:=hl i x v e1 e2 e3;refine⟨u,r,?_⟩;rcases l with l|⟨k,c,e,z⟩
  ·exact .inl l
  ·exact .inr ⟨k,c,e,aoa x c e _ z⟩
 ·obtain⟨v,z⟩:=I.cell x c e;grind
 ·obtain⟨m,⟨o,_,_,ho,_⟩,_⟩:=I.loc;exact free _ o (λz=>(nQ _ z).2.1 rfl) ho I.free
 ·obtain⟨v,o,ho,hd⟩:=I.cell x c e;exact free c o (λz=>(nQ c z).2.2.1 x c e rfl) ho Æu
 ·obtain⟨e,n,ne,nf,d⟩:=I.pin p hp;have Ao:p.1∉ch:=λz=>(nQ p.1 z).2.2.2 p hp rfl;exact⟨keep p.1 p.2 ne nf Ao e n,free p.1 p.2 Ao e n,ne,nf,d⟩
def Inv.un{t':Nat}(I:Á H s)(u:Un X.fs [] H H' s.heap h')(ax:Àa H' h'):Á H' {s with heap:=h',toks:=t'}:=by
 obtain⟨m,⟨o,es,ep,ho,r⟩,_⟩:=id I.loc;obtain⟨sl,hL⟩:=u.any ho I.free Â;exact I.step (g':=s.gens) (d':=s.drawn) (ch:=[]) (λ_ z=>nomatch z) (λb o _ hb _ e n=>u.keep b o e n hb Â) (λb o _ hb _ e n=>u.slot b o e n hb Â) (λb o _ e n=>u.free b o e n Â) (λb o _ e=>u.there b o e Â) u.tH u.qd u.tI (λm' hm=>by
  obtain⟨o',nR,rn,oS,r'⟩:=hm;rw[ho] at oS;cases oS;exact⟨_,nR,rn,hL,r'⟩) ax I.bare
def Inv.call{g':Array GenState}{t':Nat}{d':Drawn}{ch:LA}(I:Á H s)(u:Un (nO X.stack) ch H H' s.heap h')(ax:Àa H' h')(hg:AllBare g')(nQ:∀b∈ch,(b∈X.ex∨X.jb.heap.objs.size≤b)∧b≠X.env.locals∧(∀x c,X.env.cells.lookup x=some c→c≠b)∧∀p∈X.pn++pins,p.1≠b):
  Inv X pins σ H' {s with heap:=h',gens:=g',drawn:=d',toks:=t'}:=by
 obtain⟨m,⟨o,es,ep,ho,r⟩,_⟩:=id I.loc;obtain⟨sl,hL⟩:=u.any ho I.free λz=>(nQ _ z).2.1 rfl;exact I.step (ch:=ch) nQ (λb o hL hb hc e n=>u.keep b o e n (λz=>(bf.mp (I.G7 b z)).elim hL hb) hc) (λb o _ _ hc e n=>u.any e n hc) (λb o hc e n=>u.free b o e n hc) (λb o hc e=>u.there b o e hc) u.tH u.qd u.tI (λm' hm=>by
  obtain⟨o',nR,rn,oS,r'⟩:=hm;rw[ho] at oS;cases oS;exact⟨_,nR,rn,hL,r'⟩) ax hg
def Inv.turned{t':Nat}{it:Addr}(I:Á H s)(k:∀b o,b≠it→s.heap.get? b=some o→h'.get? b=some o)(hn:H it=none)(hL:it≠X.env.locals)(h1:it∈X.ex∨X.jb.heap.objs.size≤it) (h2:∀x c,X.env.cells.lookup x=some c→c≠it) (h3:∀p∈X.pn++pins,p.1≠it):Á H {s with heap:=h',toks:=t'}:=by
 have uU:∀b u,H b=some u→b≠it:=λb u e z=>by rw[z,hn] at e;cases e
 refine I.step (g':=s.gens) (d':=s.drawn) (ch:=[it]) Ċ (λb o _ _ hc e _=>k b o (λz=>hc (by simp[z])) e) (λb o _ _ hc e _=>⟨o.slots,k b o (λz=>hc (by simp[z])) e⟩) (λ_ _ _ _ n=>n)
  (λb o hc e=>⟨o,k b o (λz=>hc (by simp[z])) e⟩) (λ_ _ e=>e) (λ_ _ _ e=>e) (λb ps e=>⟨#[],by rw[e];simp⟩) Åt (λb u e=>?_) I.bare
 ·have e:b=it:=by simpa using hb
  subst e;exact⟨h1,hL,h2,h3⟩
 ·obtain⟨o,es,ep,ho,r⟩:=hm;exact⟨o,es,ep,k _ o (dJ hL) ho,r⟩
 ·refine(I.ax b u e).oR Ás (λ_ q=>q) λ_ _ q=>q;rcases hc with z|z
  ·rw[z];exact uU b u e
  ·exact uU c _ z
def Inv.tok(I:Á H s)(t:Nat):Á H {s with toks:=t}:=I.un (h':=s.heap) (t':=t) Un.refl I.ax
def Inv.kept{t':Nat}(I:Á H s)(k:∀b u,s.heap.get? b=some u→h'.get? b=some u):Á H {s with heap:=h',toks:=t'}:=I.un (Un.kept k) (I.ax.kept k)
def Inv.laid{a:Addr}{o:HO}{t':Nat}(I:Á H s)(k:∀b u,s.heap.get? b=some u→h'.get? b=some u)(hp:s.heap.objs.size≤a)(new:Ϻ (Ŧ o) h' a o):
  Inv X pins σ (Ŧ o) {s with heap:=h',toks:=t'}:=I.un (Un.laid k hp (I.ax.fresh hp)) (I.ax.laid k hp new)
def Inv.write{x e:Addr}{o:HO}{t':Nat}(I:Á H s)(mu:tG (H x))(he:e=x∨H e=some Äs)(k:∀b u,b≠e→s.heap.get? b=some u→h'.get? b=some u)(Ak:∃u,h'.get? e=some u)(new:Ϻ (Áa o) h' x o):Á (Áa o) {s with heap:=h',toks:=t'}:=I.un (Un.write mu he k Ak) (I.ax.write mu he k Ak new)
def Inv.weak(I:Á H s)(hl:σ'.length=σ.length)(w:∀(i:Nat)v,σ'[i]? =some Än→σ[i]? =some Än):Inv X pins σ' H s:=
 ⟨I.ok,I.os,I.bare,I.base,let ⟨m,hn,G9⟩:=I.loc;⟨m,hn,λi x v e1 e2 e3=>G9 i x v e1 (w i v e2) e3⟩,I.cell,I.free,I.lH,I.pin,I.ax,hl.trans I.len⟩
def Inv.Hc(I:Á H s)(h:∀p∈YU,s.heap.get? p.1=some p.2∧H p.1=none∧p.1≠X.env.locals∧p.1∉X.fs∧∀v,p.2.data≠ .cell v):Inv X YU σ H s:=
 ⟨I.ok,I.os,I.bare,I.base,I.loc,I.cell,I.free,I.lH,λp hp=>(gK.mp hp).elim (λz=>I.pin p (z8 _ z)) (h p),I.ax,I.len⟩
def Hd{N:LS}(hN:N.Nodup){i j:Nat}{x:Str}(a:N[i]? =some x)(b:N[j]? =some x):i=j:=by
 obtain⟨h1,e1⟩:=bH.mp a;obtain⟨h2,e2⟩:=bH.mp b;exact(Xd hN).mp (e1.trans e2.symm)
def OY{E:VP}{Q:Unit→Shared→Prop}(I:Á H s)(hN:X.N.Nodup)(hi:X.N[i]? =some x)(hx:Loc X.env.scope x)(r:RelV v u)(h:∀s',Inv X pins Ļ H s'→(∃a,Heap.SameBut a s.heap s'.heap∧(a=X.env.locals∨X.env.cells.lookup x=some a))→Q () s') (hf:X.fn x=true∨X.env.scope.names.lookup x=some .local:=by first|exact .inl rfl|exact .inr rfl|assumption):ſ (storeName X.env x u) Q E s:=by
 obtain⟨m,hn,hl⟩:=id I.loc;have Ah:(X.env.scope.kind== .class||(X.env.scope.kind== .module&&X.env.locals !=X.env.globals))=false:=by rw[I.ok.kind];rfl
 have hiσ:i<σ.length:=by rw[I.len];exact(bH.mp hi).1
 have wx:=I.wx;have WZ:∀{a:Addr}{h':Heap},(∃o,s.heap.get? a=some o∧H a=none)→Heap.SameBut a s.heap h'→Àa H h':=λ{a h'}ha hs b ob e=>by
  obtain⟨_,_,C8⟩:=ha;refine(I.ax b ob e).oR (λc w' hc q=>(hs.2 c ?_).trans q) (λ_ q=>q) λ_ _ q=>q;grind
 rcases hx with hk|hk
 ·refine wpAny_storeName_local hk hn (λh' OZ hs=>?_) Ah;obtain⟨oL,_,_,YV,_⟩:=id hn;refine h _ ⟨I.ok,I.os,I.bare,⟨λb o e n hb hx=>?_,λb o e n hb hx=>?_,I.base.free,λb o e hx=>?_,I.base.tH,I.base.qd,I.base.tI⟩,⟨_,OZ,λj y v' e1 e2 e3=>?_⟩,λy c e=>?_,I.free,I.lH,λp hp=>?_,WZ ⟨oL,YV,I.free⟩ hs,by simpa using I.len⟩ ⟨_,hs,.inl rfl⟩
  ·exact(hs.2 b (fU ϴ)).trans Àr
  ·obtain⟨sl,e1⟩:=I.base.slot b o e n hb hx;exact⟨sl,(hs.2 b (fU ϴ)).trans e1⟩
  ·obtain⟨o',e1⟩:=I.base.there b o e hx;exact⟨o',(hs.2 b (fU ϴ)).trans e1⟩
  ·by_cases hj:j=i
   ·subst hj;rw[hi] at e1;cases e1;rw[Xe hiσ] at e2;cases e2;exact⟨u,r,.inl ⟨hk,by simp⟩⟩
   ·rw[Xf (dJ hj)] at e2;obtain⟨u',r',q⟩:=hl j y v' e1 e2 e3;refine⟨u',r',?_⟩;rcases q with ⟨k,e⟩|⟨k,c,e,z⟩
    ·refine .inl ⟨k,?_⟩;have:y≠x:=λe=>hj (Hd hN e1 (e▸ hi));simp_all
    ·exact .inr ⟨k,c,e,z.sameBut hs (wx y c e)⟩
  ·obtain⟨w',z⟩:=I.cell y c e;exact⟨w',z.sameBut hs (wx y c e)⟩
  ·obtain⟨e,n,ne,nf,d⟩:=I.pin p hp;exact⟨(hs.2 p.1 ne).trans e,n,ne,nf,d⟩
 ·have He:X.fn x=true:=by
   simp_all
  obtain⟨c,hc⟩:=I.ok.has x (.inl hk);obtain⟨w',z⟩:=I.cell x c hc;refine wpAny_storeName_cell I.ok.kind hk hc z (λh' Ap hs=>?_);obtain⟨oc,YW,apc⟩:=id z;refine h {s with heap:=h'} ⟨I.ok,I.os,I.bare,⟨λb o e n hb hx=>?_,λb o e n hb hx=>?_,I.base.free,λb o e hx=>?_,I.base.tH,I.base.qd,I.base.tI⟩,⟨m,hn.sameBut hs (dJ (wx x c hc)),λj y v' e1 e2 e3=>?_⟩,λy c' e=>?_,I.free,I.lH,λp hp=>?_,WZ ⟨oc,YW,I.lH x c hc⟩ hs,by simpa using I.len⟩ ⟨c,hs,.inr hc⟩
  ·exact(hs.2 b ϕ).trans Àr
  ·obtain⟨sl,e1⟩:=I.base.slot b o e n hb hx;exact⟨sl,(hs.2 b ϕ).trans e1⟩
  ·obtain⟨o',e1⟩:=I.base.there b o e hx;exact⟨o',(hs.2 b ϕ).trans e1⟩
  ·by_cases hj:j=i
   ·subst hj;rw[hi] at e1;cases e1;rw[Xe hiσ] at e2;cases e2;exact⟨u,r,.inr ⟨.inl hk,c,hc,Ap⟩⟩
   ·rw[Xf (dJ hj)] at e2;obtain⟨u',r',q⟩:=hl j y v' e1 e2 e3;refine⟨u',r',?_⟩;rcases q with q|⟨k,c',e,z'⟩
    ·exact .inl q
    ·refine .inr ⟨k,c',e,z'.sameBut hs ?_⟩;rintro rfl;exact hj (Hd hN e1 (I.ok.inj _ _ _ e hc▸ hi))
  ·by_cases jc:c'=c
   ·grind
   ·obtain⟨w2,z2⟩:=I.cell y c' e;exact⟨w2,z2.sameBut hs jc⟩
  ·obtain⟨e,n,ne,nf,d⟩:=I.pin p hp;refine⟨(hs.2 p.1 ?_).trans e,n,ne,nf,d⟩;grind
def C9(I:Á H s)(hN:X.N.Nodup)(hi:X.N[i]? =some x)(hx:Loc X.env.scope x)(r:RelV v u)(h:∀s',Inv X pins Ļ H s'→Q () s') (hf:X.fn x=true∨X.env.scope.names.lookup x=some .local:=by first|exact .inl rfl|exact .inr rfl|assumption):ſ (storeName X.env x u) Q E s:=
 OY I hN hi hx r (λs' I' _=>h s' I') hf
def Inv.uV{s':Sh}{ch:LA}(I:Á H s)(ho:s'.os=s.os)(u:Un (nO X.stack) ch H H' s.heap s'.heap)(ax:Àa H' s'.heap)(hg:AllBare s'.gens)(nQ:∀b∈ch,(b∈X.ex∨X.jb.heap.objs.size≤b)∧b≠X.env.locals∧(∀x c,X.env.cells.lookup x=some c→c≠b)∧∀p∈X.pn++pins,p.1≠b):Á H' s':=by
 obtain⟨h',g',d',t',o'⟩:=s';have e:o'=s.os:=ho;subst e;exact I.call (g':=g') (t':=t') (d':=d') u ax hg nQ
end
abbrev XK:=Value→OA→Hp→Prop
abbrev St:=List (Option V)
abbrev VK:=V→Hp→Prop
abbrev TE:=St→Hp→VK→Prop
abbrev TT:=St→Hp→(Bool→Hp→Prop)→Prop
abbrev TA:=St→Hp→(aq→Hp→Prop)→Prop
structure Ends where
 nx:St→Hp→Prop
 rt:VK
 bk:St→Hp→Prop:=λ_ _=>False
 ct:St→Hp→Prop:=λ_ _=>False
abbrev TS:=Ends→St→Hp→Prop
inductive EP(X:Cx)(pins:bI)(σ:St)(Q:VK)(u:Value)(s':Sh):Prop
 |mk (v:V) (H':Hp) (_:Á H' s') (_:RelV v u) (_:Q v H')
inductive TP(X:Cx)(pins:bI)(σ:St)(Q:Bool→Hp→Prop)(b:Bool)(s':Sh):Prop
 |mk (H':Hp) (_:Á H' s') (_:Q b H')
inductive AP(X:Cx)(pins:bI)(σ:St)(Q:aq→Hp→Prop)(us:LV)(s':Sh):Prop
 |mk (vs:aq) (H':Hp) (_:Á H' s') (_:ba vs us) (_:Q vs H')
inductive WP(X:Cx)(pins:bI)(Q:St→Hp→Prop)(s':Sh):Prop
 |mk (σ':St) (H':Hp) (_:ϩ s') (_:Q σ' H')
def SP(X:Cx)(pins:bI)(D:Ends)(f:Flow)(s':Sh):Prop:=
 match f with
 |.next=>WP X pins D.nx s'
 |.brk=>WP X pins D.bk s'
 |.cont=>WP X pins D.ct s'
 |.ret u=>∃v σ' H',ϩ s'∧RelV v u∧D.rt v H'
def PE(X:Cx)(e:Expr)(t:TE):Prop:=
 ∀(pins:bI)(s:Sh)(σ:St)(H:Hp)(Q:VK),Á H s→t σ H Q→wpAny Æ X.A Àf (ð Q) X.xe s
def PT(X:Cx)(e:Expr)(t:TT):Prop:=
 ∀(pins:bI)(s:Sh)(σ:St)(H:Hp)(Q:Bool→Hp→Prop),Á H s→t σ H Q→wpAny Æ X.A (isTrue e X.env Àf) Âo X.xe s
def PW(X:Cx)(e:Expr)(t:TT):Prop:=
 ∀(whole:Sem Value)(pins:bI)(s:Sh)(σ:St)(H:Hp)(Q:Bool→Hp→Prop),Á H s→t σ H Q→wpAny Æ X.A (isTrue e X.env whole) Âo X.xe s
def PW.pt(h:PW X e t):PT X e t:=h _
def PA(X:Cx)(es:List Expr)(t:TA):Prop:=
 ∀(pos:Pos)(pins:bI)(s:Sh)(σ:St)(H:Hp)(Q:aq→Hp→Prop),Á H s→t σ H Q→wpAny Æ X.A (spliced (backTo pos ô)) (AP X pins σ Q) X.xe s
def PS(X:Cx)(st:Stmt)(t:TS):Prop:=
 ∀(pins:bI)(s:Sh)(σ:St)(H:Hp)(D:Ends),Á H s→t D σ H→wpAny Æ X.A (exec st X.env) Åd X.xe s
def jI(X:Cx)(st:List Stmt)(t:TS):Prop:=
 ∀(pins:bI)(s:Sh)(σ:St)(H:Hp)(D:Ends),Á H s→t D σ H→wpAny Æ X.A (execs st X.env) Åd X.xe s
def aL{α:Type}{t:Sem α}{Q Q':α→Shared→Prop}{M:Model}{A:Around}{E:VP}{s:Sh}(h:ſ t Q E s)(hQ:∀a s,Q a s→Q' a s):ſ t Q' E s:=i6 h hQ λ_ _ x=>x
end L2
namespace L2
open PySem PySem.Spec PyProof.Rows
section
inductive ay(i:Nat)(σ:St)(H:Hp)(Q:VK):Prop
 |mk (v:_) (_:σ[i]? =some Än) (_:Q v H)
def tC(v:V):TE:=λ_ H Q=>Q v H
def O0(hN:X.N[i]? =some x)(hv:wu X.env.scope x)(hd:(x==("__debug__":Str))=false:=by decide)(j8:(x==("__classdict__":Str))=false:=by decide):PE X Ϸ (ay i):=by
 show Ô;obtain⟨v,e,h⟩:=h;obtain⟨m,hn,hl⟩:=I.loc;obtain⟨u,r,l⟩:=hl i x v hN e hv;have fin:ð Q u s:=⟨v,H,I,r,h⟩;rcases l with ⟨hk,hm⟩|⟨hk,c,hc,Da⟩
 ·exact wpAny_Name (wpAny_loadName_local I.ok.kind hk hn hm fin) hd
 ·rcases hk with hk|hk
  ·exact wpAny_Name (wpAny_loadName_cell I.ok.kind hk hc Da fin) hd
  ·exact wpAny_Name (wpAny_loadName_free I.ok.kind hk hc Da fin j8) hd
def bh{i j pos}:PE X (.Constant Âr j pos) (tC Âr):=λ_ _ _ H _ I h=>wpAny_Constant_int ⟨.int i,H,I.tok _,⟨_,rfl⟩,h⟩
def yn{b j pos}:PE X (.Constant (.bool b) j pos) (tC (.bl b)):=λ_ _ _ H _ I h=>Constant_bool ⟨.bl b,H,I,rfl,h⟩
def qf{j pos}:PE X (.Constant .none j pos) (tC .aJ):=λ_ _ _ H _ I h=>Constant_none ⟨.aJ,H,I,rfl,h⟩
def Dc{x j pos}:PE X (.Constant Æw j pos) (tC Æw):=λ_ _ _ H _ I h=>Calls.Constant_str ⟨.str x,H,I.tok _,⟨_,rfl⟩,h⟩
def Gl(X:Cx)(x:Str):Prop:=X.env.kindOf x=some .globalImplicit
def wy(I:Á H s)(hg:Gl X x)(hm:X.mg x=some u)(h:Q u s)(hd:(x==("__debug__":Str))=false:=by decide):wpAny Æ X.A (eval Ϸ X.env) Q E s:=
 aos I.ok.kind hg (Calls.loadGlobal_global (by rw[I.ok.glob];exact I.mod.glob.keeps I.bk) hm h) hd
def uW{E:VP}{pins:bI}{s:Sh}{σ:St}{H:Hp}{x:Str}{u:Value}{pos:Pos}{Q:VP}(I:Á H s)(hg:Gl X x)(hm:X.mg x=none)(hv:bootBuiltins x=some u)(h:Q u s)(hn:x≠"__name__":=by decide) (hd:(x==("__debug__":Str))=false:=by decide):wpAny Æ X.A (eval Ϸ X.env) Q E s:=by
 obtain⟨mb,h1,h2⟩:=I.mod.blt;exact aos I.ok.kind hg (Calls.loadGlobal_builtin (by rw[I.ok.glob];exact I.mod.glob.keeps I.bk) hm (by rw[I.ok.blt];exact h1.keeps I.bk) ((h2 x hn).trans hv) h) hd
def uX(hg:Gl X x)(hm:X.mg x=some u)(r:RelV v u)(hd:(x==("__debug__":Str))=false:=by decide):PE X Ϸ (tC v):=
 λ_ _ _ H _ I h=>wy I hg hm ⟨v,H,I,r,h⟩ hd
def PC(X:Cx)(op:CmpOp)(a b:Expr)(t:TE):Prop:=
 ∀(pins:bI)(s:Sh)(σ:St)(H:Hp)(Q:VK),Á H s→t σ H Q→
  wpAny Æ X.A (eval a X.env) (λv s₁=>wpAny Æ X.A (eval b X.env) (λu s₂=>wpAny Æ X.A (compareOp op v u) (ð Q) X.xe s₂) X.xe s₁) X.xe s
def O1(b:Expr)(h:op≠ .In)(h2:op≠ .NotIn):behindInMarks op b=false:=by
 have e1:(op==CmpOp.In)=false:=by cases op <;> first|rfl|exact absurd rfl h
 have e2:(op==CmpOp.NotIn)=false:=by cases op <;> first|rfl|exact absurd rfl h2
 cases b <;> simp[behindInMarks,e1,e2]
def YX(ta:TE):TE:=λσ H Q=>ta σ H λx H1=>Q (.bl (decide (x=.aJ))) H1
def O2(ta:TE):TE:=λσ H Q=>ta σ H λx H1=>Q (.bl (!decide (x=.aJ))) H1
theorem RelV.O3(r:RelV x v):(v==Value.none)=decide (x=.aJ):=by
 cases x with
 |aJ=>cases r;rfl
 |bl _=>cases r;rfl
 |int _=>obtain⟨t,rfl⟩:=r;rfl
 |str _=>obtain⟨t,rfl⟩:=r;rfl
 |ja _=>obtain⟨t,rfl⟩:=r;rfl
 |Aj _=>obtain⟨t,rfl⟩:=r;rfl
 |ref _=>cases r;rfl
 |ty _=>cases r;rfl
def qg{j kU}(ha:Ϩ ta):PC X .Is a (.Constant .none j kU) (YX ta):=by
 show Ô;refine aL (ha pins s σ H _ I h) λv s1 ⟨x,H1,I1,r1,q1⟩=>?_;exact Constant_none (is_none_gen ⟨.bl _,H1,I1,by rw[r1.O3];rfl,q1⟩)
def Hf{j kU}(ha:Ϩ ta):PC X .IsNot a (.Constant .none j kU) (O2 ta):=by
 show Ô;refine aL (ha pins s σ H _ I h) λv s1 ⟨x,H1,I1,r1,q1⟩=>?_;exact Constant_none (isnot_none_gen ⟨.bl _,H1,I1,by rw[r1.O3];rfl,q1⟩)
inductive yo(x:V)(q:Bool→Prop):Prop
 |mk (c:Bool) (_:x=.bl c) (_:q c)
def tB(t:TE):TT:=λσ H Q=>t σ H λx H1=>yo x λc=>Q c H1
def O4(h:PC X op a b t)(h1:behindInMarks op b=false:=by first|exact O1 _ Ø (by decide)|rfl):PE X ϙ t:=λpins s σ H Q I hw=>wpAny_Compare1 Âk h1
def nU(h:PC X op a b t)(h1:behindInMarks op b=false:=by first|exact O1 _ Ø (by decide)|rfl):PT X ϙ (tB t):=by
 intro pins s σ H Q I hw;refine wpAny_isTrue_Compare1 (aL (h pins s σ H _ I hw) λv s1 h1=>aL h1 λu s2 h2=>aL h2 λc s3 ⟨x,H1,I1,r1,q1⟩=>?_) h1;obtain⟨d,rfl,q⟩:=q1;cases r1;exact sZ ⟨H1,I1,q⟩
def jr(h:ϝ t)(he:∀whole,isTrue e X.env whole=(do let v ←whole;standAt e.pos;holding [v] (truthy v)):=by intro _;rfl):PT X e (tB t):=by
 intro pins s σ H Q I hw;refine isTrue_plain (aL (h pins s σ H _ I hw) λv s1 ⟨x,H1,I1,r1,q1⟩=>?_) (he _);obtain⟨d,rfl,q⟩:=q1;cases r1;exact sZ ⟨H1,I1,q⟩
def Dd(t u:TT):TT:=λσ H Q=>t σ H λc H1=>if c=true then u σ H1 Q else Q false H1
def Hg(t u:TT):TT:=λσ H Q=>t σ H λc H1=>if c=true then Q true H1 else u σ H1 Q
def YY(t:TT):TT:=λσ H Q=>t σ H λc H1=>Q (!c) H1
theorem pw_and1(ha:PT X a tA):PW X (.BoolOp .And [a] pos) tA:=by
 intro wh pins s σ H Q I h;refine isTrue_and (aL (ha pins s σ H Q I h) λc s1 e=>?_);cases c with
 |true=>exact isTrue_and_nil e
 |false=>exact e
theorem pw_or1(ha:PT X a tA):PW X (.BoolOp .Or [a] pos) tA:=by
 intro wh pins s σ H Q I h;refine isTrue_or (aL (ha pins s σ H Q I h) λc s1 e=>?_);cases c with
 |false=>exact isTrue_or_nil e
 |true=>exact e
theorem pw_and(ha:PT X a tA)(hb:PW X (.BoolOp .And (b::bG) pos) tB'):PW X (.BoolOp .And (a::b::bG) pos) (Dd tA tB'):=by
 intro wh pins s σ H Q I h;refine isTrue_and (aL (ha pins s σ H _ I h) λc s1 ⟨H1,I1,q1⟩=>?_);cases c with
 |true=>exact hb wh pins s1 σ H1 Q I1 q1
 |false=>exact⟨H1,I1,q1⟩
theorem pw_or(ha:PT X a tA)(hb:PW X (.BoolOp .Or (b::bG) pos) tB'):PW X (.BoolOp .Or (a::b::bG) pos) (Hg tA tB'):=by
 intro wh pins s σ H Q I h;refine isTrue_or (aL (ha pins s σ H _ I h) λc s1 ⟨H1,I1,q1⟩=>?_);cases c with
 |true=>exact⟨H1,I1,q1⟩
 |false=>exact hb wh pins s1 σ H1 Q I1 q1
def oW(ha:PT X a tA):PT X (.UnaryOp .Not a pos) (YY tA):=by
 show Ô;exact isTrue_not (aL (ha pins s σ H (λc H1=>Q (!c) H1) I h) λ_ _ ⟨H1,I1,q⟩=>⟨H1,I1,q⟩)
def Hh(ta tb:TE):TE:=λσ H Q=>ta σ H λx H1=>yo x λc=>if c=true then tb σ H1 Q else Q (.bl false) H1
def Hi(ta tb:TE):TE:=λσ H Q=>ta σ H λx H1=>yo x λc=>if c=true then Q (.bl true) H1 else tb σ H1 Q
def YZ(ta:TE):TE:=λσ H Q=>ta σ H λx H1=>yo x λc=>Q (.bl (!c)) H1
def rq{op}(h:Ϩ t):PE X (.BoolOp op [a] pos) t:=λpins s σ H Q I hw=>BoolOp_one Âk
def tK(ha:Ϩ ta)(hb:PE X (.BoolOp .And (b::bG) pos) tb):PE X (.BoolOp .And (a::b::bG) pos) (Hh ta tb):=by
 show Ô;refine BoolOp_and (aL (ha pins s σ H _ I h) λv s1 ⟨x,H1,I1,r1,q1⟩=>?_);obtain⟨c,rfl,q1⟩:=q1;cases r1;refine sZ ?_;cases c with
 |true=>exact hb pins s1 σ H1 Q I1 q1
 |false=>exact⟨.bl false,H1,I1,rfl,q1⟩
def O5(ha:Ϩ ta)(hb:PE X (.BoolOp .Or (b::bG) pos) tb):PE X (.BoolOp .Or (a::b::bG) pos) (Hi ta tb):=by
 show Ô;refine BoolOp_or (aL (ha pins s σ H _ I h) λv s1 ⟨x,H1,I1,r1,q1⟩=>?_);obtain⟨c,rfl,q1⟩:=q1;cases r1;refine sZ ?_;cases c with
 |false=>exact hb pins s1 σ H1 Q I1 q1
 |true=>exact⟨.bl true,H1,I1,rfl,q1⟩
def Aq(ha:Ϩ ta):PE X (.UnaryOp .Not a pos) (YZ ta):=by
 show Ô;refine UnaryOp_ (aL (ha pins s σ H _ I h) λv s1 ⟨x,H1,I1,r1,q1⟩=>?_);obtain⟨c,rfl,q1⟩:=q1;cases r1;exact not_of (sZ ⟨.bl (!c),H1,I1,rfl,q1⟩)
def wz(t:TT)(ta tb:TE):TE:=λσ H Q=>t σ H λc H1=>if c=true then ta σ H1 Q else tb σ H1 Q
theorem rB(hc:PT X c tA)(ha:Ϩ ta)(hb:PE X b tb):PE X (.IfExp c a b pos) (wz tA ta tb):=by
 show Ô;refine wpAny_IfExp (aL (hc pins s σ H _ I h) λd s1 ⟨H1,I1,q1⟩=>?_);cases d with
 |true=>exact ha pins s1 σ H1 Q I1 q1
 |false=>exact hb pins s1 σ H1 Q I1 q1
end
end L2
namespace L2
open PySem PySem.Spec PyProof.Rows
def aa(K:FR)(H:Hp)(a:Addr)(xs:aq):Prop:=
 Rd H a ϱ∨
  ∃(o:Obj)(aj:Array Value)(n:Nat),K.lookup a=some o∧o.cls=.type "list"∧o.dict=none∧o.data=.seq aj n∧aj.size≤sizeLine∧ba xs aj.toList
def bu(K:FR)(H:Hp)(a:Addr)(xs:aq):Prop:=
 Rd H a ϰ∨
  ∃(o:Obj)(aj:Array Value)(n:Nat),K.lookup a=some o∧o.cls=.type "tuple"∧o.data=.seq aj n∧aj.size≤sizeLine∧ba xs aj.toList
def Y0:Value→Option V
 |.none=>some .aJ
 |.bool b=>some (.bl b)
 |.int i _=>some Âr
 |.str x _=>some Æw
 |.bytes b _=>some (.ja b)
 |.float b _=>some (.Aj b)
 |.ref a=>some Ě
 |.type n=>some (.ty n)
 |_=>none
theorem RelV.abs(r:RelV x u):Y0 u=some x:=by
 cases x with
 |aJ=>cases r;rfl
 |bl _=>cases r;rfl
 |int _=>obtain⟨t,rfl⟩:=r;rfl
 |str _=>obtain⟨t,rfl⟩:=r;rfl
 |ja _=>obtain⟨t,rfl⟩:=r;rfl
 |Aj _=>obtain⟨t,rfl⟩:=r;rfl
 |ref _=>cases r;rfl
 |ty _=>cases r;rfl
def RelV.inj(r:RelV x u)(q:RelV y u):x=y:=aO (r.abs.symm.trans q.abs)
theorem ba.inj:∀{xs ys:aq}{us:LV},ba xs us→ba ys us→xs=ys:=by
 intro xs ys us h;induction h generalizing ys with
 |nil=>intro h';cases h';rfl
 |cons r t ih=>
  intro h';cases h' with
  |cons r' t'=>rw[r.inj r',ih t']
section
variable{X:Cx}{pins:bI}{σ:St}{H:Hp}{s:Sh}{a:Addr}{xs ys:aq}
def aa.of{K:FR}(h:H a=some ϱ):ß a xs:=.inl (.inl h)
def bu.of{K:FR}(h:H a=some ϰ):ť a xs:=.inl (.inl h)
def Inv.list(I:Á H s)(h:Àt a xs):∃aj:LV,ba xs aj∧PlainL s.heap a aj.toArray∧xs.length≤sizeLine:=by
 rcases h with h|⟨o,aj,n,hk,hc,hd,hs,hz,r⟩
 ·obtain⟨z,aj,n,r,e⟩:=h.ok I.ax;exact⟨aj,r,⟨_,n,e,rfl,rfl,rfl⟩,z⟩
 ·refine⟨aj.toList,r,⟨o,n,I.fW a o hk,hc,hd,by assumption⟩,?_⟩;have e:=r.length;simp_all
def Inv.tuple(I:Á H s)(h:bu X.K H a xs):∃aj:LV,ba xs aj∧IsTup s.heap a aj.toArray∧xs.length≤sizeLine:=by
 rcases h with h|⟨o,aj,n,hk,hc,hs,hz,r⟩
 ·obtain⟨z,aj,r,p⟩:=h.ok I.ax;exact⟨aj,r,p,z⟩
 ·refine⟨aj.toList,r,⟨o,I.fW a o hk,hc,n,by simpa using hs⟩,?_⟩;have e:=r.length;simp only[we] at e;omega
def Inv.Ar(I:Á H s)(h:Àt a xs)(h':Àt a ys):xs=ys:=by
 obtain⟨aj,r,⟨o,n,e,_,_,d⟩,_⟩:=I.list h;obtain⟨its',r',⟨o',n',e',_,_,d'⟩,_⟩:=I.list h';rw[e] at e';cases e';rw[d] at d';injection d' with d1 _;have:aj=its':=by simpa using cz Array.toList d1
 subst this;exact r.inj r'
def Inv.O6(I:Á H s)(h:bu X.K H a xs)(h':bu X.K H a ys):xs=ys:=by
 obtain⟨aj,r,⟨o,e,_,n,d⟩,_⟩:=I.tuple h;obtain⟨its',r',⟨o',e',_,n',d'⟩,_⟩:=I.tuple h';rw[e] at e';cases e';rw[d] at d';injection d' with d1 _;have:aj=its':=by simpa using cz Array.toList d1
 subst this;exact r.inj r'
end
abbrev Cx.iA(X:Cx)(E:VP):Cx:={X with xe:=E}
abbrev Cx.rD(X:Cx):Cx:=X.iA λ_ _=>False
def Cx.Ok.iA{X:Cx}(ok:X.Ok)(E:VP):(X.iA E).Ok:=
 ⟨ok.mod,ok.kind,ok.glob,ok.blt,ok.above,ok.inj,ok.has,ok.yk,ok.hd,ok.frames,ok.Am,ok.An,ok.bs,ok.qe,ok.yl,ok.ym,ok.nP,ok.uT⟩
def Cx.Ok.lI{X:Cx}{E:VP}(ok:(X.iA E).Ok):X.Ok:=
 ⟨ok.mod,ok.kind,ok.glob,ok.blt,ok.above,ok.inj,ok.has,ok.yk,ok.hd,ok.frames,ok.Am,ok.An,ok.bs,ok.qe,ok.yl,ok.ym,ok.nP,ok.uT⟩
section
variable{X:Cx}{pins:bI}{σ:St}{H:Hp}{s:Sh}{E:VP}
def Inv.iA(I:Á H s)(E:VP):Inv (X.iA E) pins σ H s:=⟨I.ok.iA E,I.os,I.bare,I.base,I.loc,I.cell,I.free,I.lH,I.pin,I.ax,I.len⟩
def Inv.lI(I:Inv (X.iA E) pins σ H s):Á H s:=⟨I.ok.lI,I.os,I.bare,I.base,I.loc,I.cell,I.free,I.lH,I.pin,I.ax,I.len⟩
theorem SP.lI(h:SP (X.iA E) pins D f s'):SP X pins D f s':=by
 cases f with
 |next=>obtain⟨σ',H',I,q⟩:=h;exact⟨σ',H',I.lI,q⟩
 |brk=>obtain⟨σ',H',I,q⟩:=h;exact⟨σ',H',I.lI,q⟩
 |cont=>obtain⟨σ',H',I,q⟩:=h;exact⟨σ',H',I.lI,q⟩
 |ret u=>obtain⟨v,σ',H',I,r,q⟩:=h;exact⟨v,σ',H',I.lI,r,q⟩
def jI.rD{st:List Stmt}{t:TS}(h:jI X.rD st t):jI X st t:=λpins s σ H D I hw=>
 i6 (h pins s σ H D (I.iA _) hw) (λ_ _ q=>q.lI) λ_ _ z=>False.elim z
end
section
variable{X:Cx}{st:Stmt}{bG:List Stmt}{t u:TS}{e:Expr}{te:TE}{pos:Pos}
def O7:TS:=λD σ H=>D.nx σ H
def Hj(t u:TS):TS:=λD σ H=>t {D with nx:=u D} σ H
def d7:jI X [] O7:=λ_ _ σ H _ I h=>CA ⟨σ,H,I,h⟩
def aB(h1:PS X st t)(h2:jI X bG u):jI X (st::bG) (Hj t u):=by
 intro pins s σ H D I h;refine Xi (aL (h1 pins s σ H {D with nx:=u D} I h) λf s1 q=>?_);cases f with
 |next=>
  obtain⟨σ',H',I',q⟩:=q;exact h2 pins s1 σ' H' D I' q
 |ret v=>exact q
 |brk=>exact q
 |cont=>exact q
theorem aD(h1:PS X st t):jI X [st] t:=by
 intro pins s σ H D I h;refine Xi (aL (h1 pins s σ H D I h) λf s1 q=>?_);cases f with
 |next=>exact CA q
 |ret v=>exact q
 |brk=>exact q
 |cont=>exact q
def Inv.quiet(I:Á H s):interactive X.env=false:=by simp[interactive,I.ok.kind]
def Y1(te:TE):TS:=λD σ H=>te σ H λ_ H1=>D.nx σ H1
def rE(he:ϝ te)(hs:swapsWith e none pos.line X.env=pure false:=by rfl):PS X (.Expr e pos) (Y1 te):=by
 intro pins s σ H D I h;exact wpAny_Expr_any (aL (he pins s σ H _ I h) λv s1 ⟨x,H1,I1,r1,q1⟩=>⟨σ,H1,I1,q1⟩) I.quiet hs
def As(te:TE):TS:=λD σ H=>te σ H D.rt
def aZ(he:ϝ te):PS X (.Return (some e) pos) (As te):=by
 intro pins s σ H D I h;exact wpAny_Return_some (aL (he pins s σ H _ I h) λv s1 ⟨x,H1,I1,r1,q1⟩=>⟨x,σ,H1,I1,r1,q1⟩)
def Y2(c:TT)(t u:TS):TS:=λD σ H=>c σ H λb H1=>if b=true then t D σ H1 else u D σ H1
theorem dq(hc:PT X c tc)(ha:jI X a t)(hb:jI X b u):PS X (.If c a b pos) (Y2 tc t u):=by
 intro pins s σ H D I h;refine wpAny_If (aL (hc pins s σ H _ I h) λd s1 ⟨H1,I1,q1⟩=>?_);cases d with
 |true=>exact ha pins s1 σ H1 D I1 q1
 |false=>exact hb pins s1 σ H1 D I1 q1
end
abbrev TG:=V→St→Hp→(St→Hp→Prop)→Prop
abbrev Au:=aq→St→Hp→(St→Hp→Prop)→Prop
def PG(X:Cx)(Cp:Expr)(t:TG):Prop:=
 ∀(pins:bI)(s:Sh)(σ:St)(H:Hp)(v:V)(u:Value)(Q:St→Hp→Prop),Á H s→RelV v u→t v σ H Q→
  wpAny Æ X.A (assign Cp X.env u) (λ_ s'=>WP X pins Q s') X.xe s
def De(X:Cx)(ts:List Expr)(t:Au):Prop:=
 ∀(pins:bI)(s:Sh)(σ:St)(H:Hp)(vs:aq)(us:LV)(Q:St→Hp→Prop),Á H s→ba vs us→t vs σ H Q→
  wpAny Æ X.A (assignInOrder ((assignEach ts X.env).map (·.2)) us) (λ_ s'=>WP X pins Q s') X.xe s
abbrev O8:=V→V→Hp→VK→Prop
def Y3(X:Cx)(op:Operator)(t:O8):Prop:=
 ∀(pins:bI)(s:Sh)(σ:St)(H:Hp)(x y:V)(v u:Value)(Q:VK),Á H s→RelV x v→RelV y u→t x y H Q→
  wpAny Æ X.A (inplaceOp op v u) (ð Q) X.xe s
section
def oX(i:Nat):TG:=λv σ H Q=>Q Ļ H
def dv(i:Nat)(hN:X.N.Nodup)(hi:X.N[i]? =some x:=by rfl)(hx:Loc X.env.scope x:=by first|exact .inl rfl|exact .inr rfl)(hf:X.fn x=true∨X.env.scope.names.lookup x=some .local:=by first|exact .inl rfl|exact .inr rfl|assumption):PG X Ϸ (oX i):=by
 intro pins s σ H v u Q I r h;exact wpAny_assign_Name (C9 I hN hi hx r (λs' I'=>⟨_,H,I',h⟩) hf)
def O9:Au:=λvs σ H Q=>vs=[]∧Q σ H
inductive Hk(t:TG)(u:Au)(vs:aq)(σ:St)(H:Hp)(Q:St→Hp→Prop):Prop
 |mk (v r:_) (_:vs=v::r) (_:t v σ H λσ' H'=>u r σ' H' Q)
def Y4:De X [] O9:=by
 intro pins s σ H vs us Q I r h;obtain⟨e,h⟩:=h;subst e;cases r;exact assignInOrder_nil ⟨σ,H,I,h⟩
def Pa(h1:PG X e t)(h2:De X es u)(hs:(assignEach (e::es) X.env).map (·.2)=assign e X.env::(assignEach es X.env).map (·.2):=by rfl):De X (e::es) (Hk t u):=by
 intro pins s σ H vs us Q I r h;obtain⟨v,vr,e1,h⟩:=h;subst e1;cases r with
 |cons r rr=>
  rw[hs];refine assignInOrder_cons (aL (h1 pins s σ H _ _ _ I r h) λ_ s1 ⟨σ1,H1,I1,q1⟩=>?_);exact h2 pins s1 σ1 H1 _ _ Q I1 rr q1
inductive Pb(K:FR)(n:Nat)(t:Au)(v:V)(σ:St)(H:Hp)(Q:St→Hp→Prop):Prop
 |mk (a xs:_) (_:v=.ref a) (_:ť a xs) (_:xs.length=n) (_:t xs σ H Q)
def Y5{es:List Expr}{k:Nat}{t:Au}{n:Nat}(hc:X.calm=true)(h:De X es t)(hn:(assignEach es X.env).length=n:=by rfl) (qh:(assignEach es X.env).findIdx? (·.1)=none:=by rfl):PG X (.Tuple es k pos) (Pb X.K n t):=by
 intro pins s σ H v u Q I r hw;obtain⟨a,xs,e1,hq,hl,hw⟩:=hw;subst e1;cases r;obtain⟨aj,rv,ht,hz⟩:=I.tuple hq;refine assign_Tuple_tuple ă ht (by simp[hn,←hl,rv.length]) qh λh' hx=>?_;have I1:Á H {s with heap:=h'}:=I.kept (t':=s.toks) λb o e=>hx b o (fU (di e)) e;exact h pins _ σ H xs _ Q I1 (by assumption) hw
abbrev g2(K:FR)(i j:Nat):TG:=Pb K 2 (Hk (oX i) (Hk (oX j) O9))
def iB{k:Nat}{p q:Pos}(i j:Nat)(hN:X.N.Nodup)(hc:X.calm=true:=by rfl)(hi:X.N[i]? =some x:=by rfl)(hj:X.N[j]? =some y:=by rfl)(hx:Loc X.env.scope x:=by first|exact .inl rfl|exact .inr rfl)(hy:Loc X.env.scope y:=by first|exact .inl rfl|exact .inr rfl)(hf:X.fn x=true∨X.env.scope.names.lookup x=some .local:=by first|exact .inr rfl|exact .inl rfl) (hg:X.fn y=true∨X.env.scope.names.lookup y=some .local:=by first|exact .inr rfl|exact .inl rfl):PG X (.Tuple [.Name x p,.Name y q] k pos) (g2 X.K i j):=
 Y5 hc (Pa (dv i hN hi hx hf) (Pa (dv j hN hj hy hg) Y4))
def yp(te:TE)(g:TG):TS:=λD σ H=>te σ H λx H1=>g x σ H1 D.nx
def cq(i:Nat)(hN:X.N.Nodup)(he:ϝ te)(hi:X.N[i]? =some x:=by rfl)(hx:Loc X.env.scope x:=by first|exact .inl rfl|exact .inr rfl)(hs:swapsWith e (some (.Name x kU)) pos.line X.env=pure false:=by rfl)(hf:X.fn x=true∨X.env.scope.names.lookup x=some .local:=by first|exact .inl rfl|exact .inr rfl|assumption):
  PS X (.Assign [.Name x kU] e pos) (yp te (oX i)):=by
 intro pins s σ H D I h;refine wpAny_Assign_Name (aL (he pins s σ H _ I h) λv s1 ⟨y,H1,I1,r1,q1⟩=>?_) hs;exact C9 I1 hN hi hx r1 (λs2 I2=>⟨_,H1,I2,q1⟩) hf
def Y6(i:Nat)(te:TE)(ti:O8):TS:=λD σ H=>∃x,σ[i]? =some (some x)∧te σ H λy H1=>ti x y H1 λz H2=>D.nx (σ.set i (some z)) H2
def Y7(hN:X.N.Nodup)(hi:X.N[i]? =some x)(hx:Loc X.env.scope x)(he:ϝ te)(ho:Y3 X op ti)(hf:X.fn x=true∨X.env.scope.names.lookup x=some .local:=by first|exact .inl rfl|exact .inr rfl|assumption):
  PS X (.AugAssign (.Name x kU) op e pos) (Y6 i te ti):=by
 intro pins s σ H D I h;obtain⟨v,e1,h⟩:=h;obtain⟨m,hn,hl⟩:=I.loc;have Y8:wu X.env.scope x:=by rcases hx with k|k;exact .inl k;exact .inr (.inl k)
 obtain⟨u,r,l⟩:=hl i x v hi e1 Y8;refine wpAny_AugAssign_Name ?_;have go:wpAny Æ X.A Àf (λw s₂=>wpAny Æ X.A (inplaceOp op u w) (λr s₃=>wpAny Æ X.A (storeName X.env x r) (λ_=>SP X pins D .next) X.xe s₃) X.xe s₂) X.xe s:=by
  refine aL (he pins s σ H _ I h) λw s1 ⟨y,H1,I1,r1,q1⟩=>?_;refine aL (ho pins s1 σ H1 v y u w _ I1 r r1 q1) λz s2 ⟨zv,H2,I2,r2,q2⟩=>?_;exact C9 I2 hN hi hx r2 (λs3 I3=>⟨_,H2,I3,q2⟩) hf
 rcases l with ⟨hk,hm⟩|⟨hk,c,hc,Da⟩
 ·exact wpAny_loadName_local I.ok.kind hk hn hm go
 ·rcases hk with hk|hk
  ·exact wpAny_loadName_cell I.ok.kind hk hc Da go
  ·rcases hx with k|k
   ·have:X.env.scope.names.lookup x=some .free:=hk;simp_all
   ·have:X.env.scope.names.lookup x=some .free:=hk;simp_all
end
section
def Y9(c:TT)(tb:TS):TS:=λD σ H=>∃W:Nat→St→Hp→Prop,(∃m,W m σ H)∧∀m σ H,W m σ H→
 c σ H λb H1=>if b=true then ∃N:St→Hp→Prop,(∀σ' H',N σ' H'→∃m',m'<m∧W m' σ' H')∧tb {D with nx:=N,ct:=N,bk:=D.nx} σ H1 else D.nx σ H1
def Za{c:Expr}{gJ:List Stmt}{tc:TT}{tb:TS}(hp:PassesOwn Æ X.A X.env X.xe)(hc:PT X c tc)(hb:jI X gJ tb):PS X (.While c gJ [] pos) (Y9 tc tb):=by
 intro pins s σ H D I h;obtain⟨W,⟨m0,w0⟩,turn⟩:=h;refine wpAny_While (codeAny_whileLoop (λn s'=>∃σ' H',ϩ s'∧W n σ' H') ?_ m0 ⟨σ,H,I,w0⟩);rintro n s1 ⟨σ1,H1,I1,w1⟩;refine z9 hp (aL (hc pins s1 σ1 H1 _ I1 (turn n σ1 H1 w1)) λb s2 ⟨H2,I2,q2⟩=>?_);cases b with
 |true=>
  obtain⟨N,hN,q2⟩:=q2;rw[af rfl];refine z9 hp (aL (hb pins s2 σ1 H2 _ I2 q2) λf s3 q3=>?_);cases f with
  |next=>
   obtain⟨σ3,H3,I3,n3⟩:=q3;obtain⟨m',hm,w3⟩:=hN σ3 H3 n3;exact⟨m',hm,σ3,H3,I3,w3⟩
  |cont=>
   obtain⟨σ3,H3,I3,n3⟩:=q3;obtain⟨m',hm,w3⟩:=hN σ3 H3 n3;exact⟨m',hm,σ3,H3,I3,w3⟩
  |brk=>exact q3
  |ret v=>exact q3
 |false=>
  rw[ah dZ];exact CA ⟨σ1,H2,I2,q2⟩
end
structure It where
 go:Nat→Hp→Prop
 mJ:Nat→Hp→V→Hp→Prop
 stop:Nat→Hp→Prop
def lJ(X:Cx)(pins:bI)(H:Hp)(b:Addr):Prop:=
 H b=none∧b≠X.env.locals∧b∉X.fs∧(b∈X.ex∨X.jb.heap.objs.size≤b)∧(∀x c,X.env.cells.lookup x=some c→c≠b)∧∀p∈X.pn++pins,p.1≠b
def Inv.uY(I:Á H s)(hb:s.heap.objs.size≤b)(hn:H' b=none):ľ H' b:=by
 refine⟨hn,sX (i8 I.lt hb),I.YT hb,.inr (gW I.sz hb),λx c e z=>?_,λp hp z=>?_⟩
 ·obtain⟨v,q⟩:=I.cell x c e;exact absurd (i8 q.lt Ç) (qV _)
 ·exact absurd (i8 (di (I.pin p hp).1) Ç) (qV _)
structure Turn(P:Pg)(w:Wd)(K:FR)(tg:Expr)(J:It)(fp:LA)(it:Addr)(tn:Nat→Heap→Prop):Prop where
 mem:it∈fp
 obj:∀i h,tn i h→∀b∈fp,∃o,h.get? b=some o∧∀v,o.data≠ .cell v
 keep:∀i h h',tn i h→(∀b∈fp,∀o,h.get? b=some o→h'.get? b=some o)→tn i h'
 item:∀(X:Cx),X.prog=P→X.w=w→X.K=K→X.calm=true→∀(i:Nat)(pins:bI)(s:Sh)(σ:St)(H:Hp)(E:VP),Á H s→(∀b∈fp,ľ H b)→tn i s.heap→J.go i H→
  wpAny Àh X.A (pyNext Ât) (λr s1=>∃u,r=some u∧
   wpAny Àh X.A (letOwnedTupleGo tg Ât u) (λ_ s2=>∃x H',Á H' s2∧RelV x u∧J.mJ i H x H'∧tn (i+1) s2.heap∧∀b∈fp,H' b=none) E s1) E s
 done:∀(X:Cx),X.prog=P→X.w=w→X.K=K→X.calm=true→∀(i:Nat)(pins:bI)(s:Sh)(σ:St)(H:Hp)(E:VP),Á H s→(∀b∈fp,ľ H b)→tn i s.heap→J.stop i H→
  wpAny Àh X.A (pyNext Ât) (λr s1=>r=none∧Á H s1) E s
 self:∀(A:Around)(i:Nat)(s:Sh)(Q:VP)(E:VP),tn i s.heap→Q Ât s→wpAny Àh A (pyIter Ât) Q E s
abbrev TI:=St→Hp→(It→Hp→Prop)→Prop
def Av(X:Cx)(pins:bI)(σ:St)(tg:Expr)(R:It→Hp→Prop)(Hl:Value)(s2:Sh):Prop:=
 ∃(it:Addr)(fp:LA)(tn:Nat→Heap→Prop)(J:It)(H':Hp),Hl=.ref it∧Á H' s2∧Turn X.prog X.w X.K tg J fp it tn∧tn 0 s2.heap∧(∀b∈fp,ľ H' b)∧R J H'
def PI(X:Cx)(tg iter:Expr)(wi:TI):Prop:=
 ∀(pins:bI)(s:Sh)(σ:St)(H:Hp)(R:It→Hp→Prop),Á H s→wi σ H R→
  wpAny Æ X.A (eval iter X.env) (λv s1=>wpAny Æ X.A (pyIter v) Äi X.xe s1) X.xe s
def Df(ho:s.heap.get? it=some o)(hc:o.cls=.type n)(hd:o.data=.fields vs)(hn:["enumerate","zip","dict_itemiterator","dict_reverseitemiterator","odict_iterator","itertools.zip_longest","itertools.pairwise"].contains n=false) (hQ:Q () s):ſ (letOwnedTupleGo tg Ât u) Q E s:=by
 unfold letOwnedTupleGo;cases tg <;> first
  |exact c7 hQ
  |(cases u <;> first
    |exact c7 hQ
    |(refine aP (wpAny_load ho ?_)
      rw[hc,hd];show wpAny M A (if (["enumerate","zip","dict_itemiterator","dict_reverseitemiterator","odict_iterator","itertools.zip_longest","itertools.pairwise"].contains n&&vs[0]? ==some (rawInt _))=true then _ else _) Q E s;rw[ah (by intro h;rw[hn,kW] at h;cases h)];exact c7 hQ))
def uZ(K:FR)(a:Addr):It:=
 ⟨λi H=>∃xs x,ß a xs∧xs[i]? =some x,λi H x H'=>H'=H∧∀xs,ß a xs→xs[i]? =some x,λi H=>∃xs,ß a xs∧xs.length≤i⟩
def wB(lo:Int)(n:Nat):It:=⟨λi _=>i<n,λi H x H'=>H'=H∧x=.int (lo+i),λi _=>n≤i⟩
def Zb{P:Pg}{w:Wd}{K:FR}{tg:Expr}(a it:Addr):Turn P w K tg (uZ K a) [it] it (λi h=>h.IsListIter it a i) where
 mem:=by simp
 obj:=λi h st b hb=>by
  have e:b=it:=by simpa using hb
  subst e;obtain⟨o,e,c,d⟩:=st;exact⟨o,e,λv z=>by rw[d] at z;cases z⟩
 keep:=λi h h' st k=>st.at λo e=>k it Â o e
 item:=by
  show Ñ;subst hP hw hK;obtain⟨xs,x,hq,hx⟩:=hg;obtain⟨aj,rv,p,hz⟩:=I.list hq;obtain⟨u,hu,ru⟩:=rv.get hx;show é;refine wpAny_pyNext_list_item st p.isList (x:=u) (by simpa using hu) λh' nV sb=>?_;have I1:Á H {s with heap:=h'}:=I.turned (t':=s.toks) (λb o hb e=>(sb.2 b hb).trans e) f0 f1 f3 f4 f5;obtain⟨o,e,c,d⟩:=id nV;exact⟨u,rfl,Df (s:={s with heap:=h'}) e c d Ø ⟨x,H,I1,ru,⟨rfl,λys hy=>by rw[I.Ar hy hq];exact hx⟩,nV,λb hb=>(hf b hb).1⟩⟩
 done:=by
  show Ñ;subst hP hw hK;obtain⟨xs,hq,hx⟩:=hg;obtain⟨aj,rv,p,hz⟩:=I.list hq;show é;have hl:=rv.length;exact wpAny_pyNext_list_end ă st p.isList (by simp;omega) λh' eb=>⟨rfl,I.turned (t':=s.toks) ϐ f0 f1 f3 f4 f5⟩
 self:=λ_ _ _ _ _ st h=>wpAny_pyIter_listiter st h
def Zc{P:Pg}{w:Wd}{K:FR}{tg:Expr}(it:Addr)(lo:Int)(n:Nat):Turn P w K tg (wB lo n) [it] it (λi h=>IsRangeIter h it (lo+(i:Nat)*1) ((n:Int)-(i:Nat)) 1) where
 mem:=by simp
 obj:=λi h st b hb=>by
  have e:b=it:=by simpa using hb
  subst e;exact⟨_,st,λv z=>by
   have z':Data.fields _=Data.cell v:=z;cases z'⟩
 keep:=λi h h' st k=>k it Â _ st
 item:=by
  show Ñ;subst hP hw hK;show é;have W:=Walks.range (prog:=X.prog) (w:=X.w) ă it lo 1 n;refine W.item i s _ _ hg st λv h' tk hv nV kk=>?_;obtain⟨t,rfl⟩:=hv;have I1:Á H {s with heap:=h',toks:=tk}:=I.turned (λb o hb e=>kk b o (by simpa using hb) e) f0 f1 f3 f4 f5;refine⟨_,rfl,Df (s:={s with heap:=h',toks:=tk}) (n:="range_iterator") nV rfl rfl Ø ⟨.int (lo+i),H,I1,⟨t,?_⟩,⟨rfl,rfl⟩,nV,λb hb=>(hf b hb).1⟩⟩;rw[Int.mul_one]
 done:=by
  show Ñ;subst hP hw hK;show é;exact wpAny_pyNext_range_end ă st (by have:n≤i:=hg;omega) λh' eb=>⟨rfl,I.turned (t':=s.toks) ϐ f0 f1 f3 f4 f5⟩
 self:=λ_ _ _ _ _ st h=>wpAny_pyIter_rangeiter st h
end L2
namespace L2
open PySem PySem.Spec PyProof.Rows
section
def Zd(K:FR)(tl:TE):TI:=λσ H R=>tl σ H λx H1=>∃a,x=.ref a∧(∃xs,aa K H1 a xs)∧R (uZ K a) H1
def eV{l:Expr}{tl:TE}(hl:PE X l tl):PI X tg l (Zd X.K tl):=by
 intro pins s σ H R I h;refine aL (hl pins s σ H _ I h) λv s1 ⟨x,H1,I1,r1,q1⟩=>?_;obtain⟨a,e,⟨xs,hq⟩,q⟩:=q1;subst e;cases r1;obtain⟨aj,rv,p,hz⟩:=I1.list hq;refine Xj p.isList ?_;refine⟨s1.heap.objs.size,[s1.heap.objs.size],_,_,H1,rfl,I1.kept (t':=s1.toks) λb o e=>dh _ e,Zb a _,⟨_,g9 _ rfl,rfl,rfl⟩,λb hb=>?_,q⟩;have e:b=s1.heap.objs.size:=by simpa using hb
 subst e;exact I1.uY (bO _) Ãj
def Pc{pins:bI}{σ:St}{H:Hp}{s:Sh}{R:It→Hp→Prop}{E:VP}{lo hi:Int}{t u v:Tok}{tk:Nat}(I:Á H s)(h1: -(2^62)≤lo)(h2:lo<2^62)(h3: -(2^62)≤hi)(h4:hi<2^62)(q:R (wB lo (hi-lo).toNat) H):wpAny Æ X.A (pyIter Ķ) Äi E {s with heap:=s.heap.push {cls:=.type "range",data:=.fields #[.int lo t,.int hi u,.int 1 v]},toks:=tk}:=by
 refine wpAny_pyIter_range (IsRange.new ..) (small_one h1 h2 h3 h4) ?_;have I1:Á H {s with heap:=s.heap.push {cls:=.type "range",data:=.fields #[.int lo t,.int hi u,.int 1 v]},toks:=tk}:=I.kept λb o e=>dh _ e;refine⟨(s.heap.push {cls:=.type "range",data:=.fields #[.int lo t,.int hi u,.int 1 v]}).objs.size,[(s.heap.push {cls:=.type "range",data:=.fields #[.int lo t,.int hi u,.int 1 v]}).objs.size],_,_,H,rfl,
  I1.kept (t':=tk) λb o e=>dh _ e,Zc _ lo (hi-lo).toNat,?_,λb hb=>?_,q⟩
 ·have e1:lo+((0:Nat):Int)*1=lo:=by simp
  have e2:(((hi-lo).toNat:Nat):Int)-((0:Nat):Int)=Builtin.Range.rangeSize lo hi 1:=by rw[rangeSize_one];split <;> omega
  show IsRangeIter _ _ (lo+((0:Nat):Int)*1) ((((hi-lo).toNat:Nat):Int)-((0:Nat):Int)) 1;rw[e1,e2];exact g9 _ rfl
 ·have e:b=(s.heap.push {cls:=.type "range",data:=.fields #[.int lo t,.int hi u,.int 1 v]}).objs.size:=by simpa using hb
  subst e;exact I1.uY (bO _) Ãj
def Ze(ta:TA):TI:=λσ H R=>ta σ H λvs H1=>∃j:Int,vs=[.int j]∧ -(2^62)≤j∧j<2^62∧R (wB 0 j.toNat) H1
def Zf(ta:TA):TI:=λσ H R=>ta σ H λvs H1=>∃i j:Int,vs=[.int i,.int j]∧(-(2^62)≤i∧i<2^62∧ -(2^62)≤j∧j<2^62)∧R (wB i (j-i).toNat) H1
def Hm{a:Expr}{ta:TA}{p pos:Pos}(hg:Gl X "range")(hm:X.mg "range"=none)(ha:PA X [a] ta)(hs:starEach [a] X.env=[(false,eval a X.env)]:=by rfl):PI X tg (.Call (.Name "range" p) [a] [] pos) (Ze ta):=by
 intro pins s σ H R I h;refine Call_ (Àg boot_range (CC (aL (ha pos pins s σ H _ I h) λus s1 ⟨vs,H1,I1,r1,q1⟩=>?_) hs rfl));obtain⟨j,e,q1,q2,q⟩:=q1;subst e;cases r1 with
 |cons r rr=>
  cases rr;obtain⟨t,rfl⟩:=r;exact call_range_1 (Pc I1 Ä Ä q1 q2 Ç)
def Zg(hg:Gl X "range")(hm:X.mg "range"=none)(ha:PA X [a,b] ta)(hs:starEach [a,b] X.env=[(false,eval a X.env),(false,eval b X.env)]:=by rfl)(rF:starEach [b] X.env=[(false,eval b X.env)]:=by rfl):
  PI X tg (.Call (.Name "range" p) [a,b] [] pos) (Zf ta):=by
 intro pins s σ H R I h;refine Call_ (Àg boot_range (CC (aL (ha pos pins s σ H _ I h) λus s1 ⟨vs,H1,I1,r1,q1⟩=>?_) Ç (by rw[rF];rfl)));obtain⟨i,j,e,⟨q1,q2,q3,q4⟩,q⟩:=q1;subst e;cases r1 with
 |cons r rr=>
  cases rr with
  |cons r' rr=>
   cases rr;obtain⟨t,rfl⟩:=r;obtain⟨t',rfl⟩:=r';exact call_range_2 (Pc I1 q1 q2 q3 q4 q)
def Zh(wi:TI)(g:TG)(tb:TS):TS:=λD σ H=>wi σ H λJ H1=>∃W:Nat→Nat→St→Hp→Prop,(∃m,W 0 m σ H1)∧∀i m σ H,W i m σ H→
 (J.stop i H∧D.nx σ H)∨(J.go i H∧∃N:St→Hp→Prop,(∀σ' H',N σ' H'→∃m',m'<m∧W (i+1) m' σ' H')∧∀x H',J.mJ i H x H'→g x σ H' λσ2 H2=>tb {D with nx:=N,ct:=N,bk:=D.nx} σ2 H2)
def Aw(fp:LA)(h:Heap):bI:=fp.filterMap λb=>(h.get? b).map λo=>(b,o)
def Ho(hb:b∈fp)(e:h.get? b=some o):(b,o)∈Aw fp h:=Oh.mpr ⟨b,hb,by rw[e];rfl⟩
def Zi(hp:p∈Aw fp h):p.1∈fp∧h.get? p.1=some p.2:=by
 obtain⟨b,hb,e⟩:=Oh.mp hp;cases q:h.get? b with
 |none=>simp_all
 |some o=>
  grind
def Inv.pinned(I:Á H s)(hf:∀b∈fp,ľ H b)(ho:∀b∈fp,∃o,s.heap.get? b=some o∧∀v,o.data≠ .cell v):Inv X (pins++Aw fp s.heap) σ H s:=
 I.Hc λp hp=>(gK.mp hp).elim (λz=>I.pin p (tj _ z)) λz=>by
  obtain⟨hb,e⟩:=Zi z;obtain⟨f0,f1,f2,_⟩:=hf p.1 hb;obtain⟨o,e',d⟩:=ho p.1 hb;rw[e] at e';cases e';exact⟨e,f0,f1,f2,d⟩
def Inv.Dg(I:Inv X (pins++pl) σ H s):Á H s:=I.Hc λp hp=>I.pin p (tj _ (z8 _ hp))
def mO(hp:PassesOwn Æ X.A X.env X.xe)(hc:X.calm=true)(hi:PI X tg iter wi)(hg:PG X tg g)(hb:jI X gJ tb)(hs:∀x,foldedSetIterable iter X.env x=pure x:=by intro _;rfl):PS X (.For tg iter gJ [] pos) (Zh wi g tb):=by
 intro pins s σ H D I h;refine wpAny_For (aL (hi pins s σ H _ I h) λv s1 h1=>aL h1 λHl s2 h2=>?_) hs;obtain⟨it,fp,tn,J,H2,e,I2,T,Dh,f2,W,⟨m0,w0⟩,turn⟩:=h2;subst e;have wC:∀{H':Hp},(∀b∈fp,H' b=none)→∀b∈fp,ľ H' b:=λhn b hb=>⟨hn b hb,(f2 b hb).2⟩;refine codeAny_forLoop_any (λn s'=>∃i σ' H',ϩ s'∧tn i s'.heap∧(∀b∈fp,H' b=none)∧W i n σ' H') ?_ m0 ⟨0,σ,H2,I2,Dh,λb hb=>(f2 b hb).1,w0⟩;rintro n s3 ⟨i,σ3,H3,I3,Di,Pd,w3⟩;rcases turn i n σ3 H3 w3 with ⟨stop,qn⟩|⟨go,N,hN,step⟩
 ·refine z9 hp (aL (T.done X rfl rfl rfl hc i pins s3 σ3 H3 X.xe I3 (wC Pd) Di stop) λr s4 ⟨hr,I4⟩=>?_);subst hr;exact CA ⟨σ3,H3,I4,qn⟩
 ·refine z9 hp (aL (T.item X rfl rfl rfl hc i pins s3 σ3 H3 X.xe I3 (wC Pd) Di go) λr s4 ⟨u,hr,h4⟩=>?_);subst hr;refine z9 hp (aL h4 λ_ s5 ⟨x,H5,I5,r5,y5,yq,Zj⟩=>?_);have Zk:=I5.pinned (wC Zj) (T.obj _ _ yq);refine z9 hp (aL (hg _ s5 σ3 H5 x u _ Zk r5 (step x H5 y5)) λ_ s6 ⟨σ6,H6,I6,q6⟩=>?_);refine z9 hp (aL (hb _ s6 σ6 H6 _ I6 q6) λf s7 q7=>?_);have again:∀{σ7:St}{H7:Hp},Inv X (pins++Aw fp s5.heap) σ7 H7 s7→N σ7 H7→∃m,m<n∧∃i σ' H',ϩ s7∧tn i s7.heap∧(∀b∈fp,H' b=none)∧W i m σ' H':=λ{σ7 H7}I7 n7=>by
   obtain⟨m',hm,w7⟩:=hN σ7 H7 n7;refine⟨m',hm,i+1,σ7,H7,I7.Dg,T.keep _ _ _ yq λb hb o e=>(I7.pin (b,o) (tj _ (tj _ (Ho hb e)))).1,λb hb=>?_,w7⟩;obtain⟨o,e,d⟩:=T.obj _ _ yq b hb;exact(I7.pin (b,o) (tj _ (tj _ (Ho hb e)))).2.1
  cases f with
  |next=>obtain⟨σ7,H7,I7,n7⟩:=q7;exact again I7 n7
  |cont=>obtain⟨σ7,H7,I7,n7⟩:=q7;exact again I7 n7
  |brk=>obtain⟨σ7,H7,I7,q7⟩:=q7;exact⟨σ7,H7,I7.Dg,q7⟩
  |ret v=>obtain⟨x7,σ7,H7,I7,r7,q7⟩:=q7;exact⟨x7,σ7,H7,I7.Dg,r7,q7⟩
end
def wD{K:FR}{a:Addr}{xs:aq}{g:TG}{tb:TS}{D:Ends}{σ:St}{H:Hp}(Pv:Nat→St→Hp→Prop)(h0:Pv 0 σ H)(hl:∀i σ H,i≤xs.length→Pv i σ H→ß a xs)(hs:∀i x σ H,xs[i]? =some x→Pv i σ H→g x σ H λσ2 H2=>tb {D with nx:=Pv (i+1),ct:=Pv (i+1),bk:=D.nx} σ2 H2) (hd:∀σ H,Pv xs.length σ H→D.nx σ H):
  ∃W:Nat→Nat→St→Hp→Prop,(∃m,W 0 m σ H)∧∀i m σ H,W i m σ H→
   ((uZ K a).stop i H∧D.nx σ H)∨((uZ K a).go i H∧∃N:St→Hp→Prop,(∀σ' H',N σ' H'→∃m',m'<m∧W (i+1) m' σ' H')∧∀x H',(uZ K a).mJ i H x H'→g x σ H' λσ2 H2=>tb {D with nx:=N,ct:=N,bk:=D.nx} σ2 H2):=by
 refine í;rintro i m σ H ⟨rfl,hi,p⟩;have q:=hl i σ H hi p;by_cases bJ:i<xs.length
 ·refine .inr ⟨⟨xs,xs[i],q,by simp[bJ]⟩,Pv (i+1),λσ' H' p'=>⟨xs.length-(i+1),by omega,rfl,bJ,p'⟩,λx H' y=>?_⟩;obtain⟨e,y⟩:=y;subst e;exact hs i x σ _ (y xs q) p
 ·have e:i=xs.length:=by omega
  subst e;exact .inl ⟨⟨xs,q,bO _⟩,hd σ H p⟩
end L2
namespace L2
open PySem PySem.Spec PyProof.Rows
abbrev R2:=V→V→Hp→VK→Prop
def eS(X:Cx)(f:Value→Value→Sem Value)(r:R2):Prop:=
 ∀(pins:bI)(s:Sh)(σ:St)(H:Hp)(x y:V)(v u:Value)(Q:VK),Á H s→RelV x v→RelV y u→r x y H Q→
  wpAny Æ X.A (f v u) (ð Q) X.xe s
def Dj(X:Cx)(f:Value→Sem Value)(r:V→Hp→VK→Prop):Prop:=
 ∀(pins:bI)(s:Sh)(σ:St)(H:Hp)(x:V)(v:Value)(Q:VK),Á H s→RelV x v→r x H Q→
  wpAny Æ X.A (f v) (ð Q) X.xe s
def k8(X:Cx)(f:Value)(r:aq→Hp→VK→Prop):Prop:=
 ∀(pins:bI)(s:Sh)(σ:St)(H:Hp)(xs:aq)(us:LV)(Q:VK),Á H s→ba xs us→r xs H Q→
  wpAny Æ X.A (call f us) (ð Q) X.xe s
def Zl(X:Cx)(r:V→Hp→(Bool→Hp→Prop)→Prop):Prop:=
 ∀(pins:bI)(s:Sh)(σ:St)(H:Hp)(x:V)(v:Value)(Q:Bool→Hp→Prop),Á H s→RelV x v→r x H Q→
  wpAny Æ X.A (truthy v) Âo X.xe s
def bQ(r:R2)(ta tb:TE):TE:=λσ H Q=>ta σ H λx H1=>tb σ H1 λy H2=>r x y H2 Q
def Dk(r:V→Hp→VK→Prop)(ta:TE):TE:=λσ H Q=>ta σ H λx H1=>r x H1 Q
inductive rI(C:Int→Int→Prop)(g:Int→Int→V)(x:V)(y:V)(H:Hp)(Q:VK):Prop
 |mk (i j:_) (_:x=.int i) (_:y=.int j) (_:C i j) (_:Q Äc H)
inductive gv(g:Int→Int→V)(x:V)(y:V)(H:Hp)(Q:VK):Prop
 |mk (i j:_) (_:x=.int i) (_:y=.int j) (_:Q Äc H)
inductive rU(g:Int→V)(x:V)(H:Hp)(Q:VK):Prop
 |mk (i:_) (_:x=.int i) (_:Q (g i) H)
section
def Hq(ha:Ϩ ta)(hb:PE X b tb){pins:bI}{s:Sh}{σ:St}{H:Hp}{R:V→V→Hp→Prop}(I:Á H s)(h:ta σ H λx H1=>tb σ H1 λy H2=>R x y H2) {Q:VP} {f:Value→Value→Sem Value}(hf:∀v u s2 x y H2,Á H2 s2→RelV x v→RelV y u→R x y H2→wpAny Æ X.A (f v u) Q X.xe s2):
  wpAny Æ X.A (eval a X.env) (λv s₁=>wpAny Æ X.A (eval b X.env) (λu s₂=>wpAny Æ X.A (f v u) Q X.xe s₂) X.xe s₁) X.xe s:=by
 refine aL (ha pins s σ H _ I h) λv s1 ⟨x,H1,I1,r1,q1⟩=>?_;refine aL (hb pins s1 σ H1 _ I1 q1) λu s2 ⟨y,H2,I2,r2,q2⟩=>?_;exact hf v u s2 x y H2 I2 r1 r2 q2
def eP{op:Operator}{r:R2}(ho:eS X (binaryOp op) r)(ha:Ϩ ta)(hb:PE X b tb):PE X (.BinOp a op b pos) Æn:=by
 show Ô;exact wpAny_BinOp (Hq ha hb I h λv u s2 x y H2 I2 rx ry q=>ho pins s2 σ H2 x y v u Q I2 rx ry q)
def js(ho:Dj X (unaryOp op) r)(ha:Ϩ ta):PE X (.UnaryOp op a pos) (Dk r ta):=by
 show Ô;exact UnaryOp_ (aL (ha pins s σ H _ I h) λv s1 ⟨x,H1,I1,r1,q1⟩=>ho pins s1 σ H1 x v Q I1 r1 q1)
def Ax{f:Value→Value→Sem Value}{C:Int→Int→Prop}{g:Int→Int→Int}(rule:∀(i j:Int)(t u:Tok)(s:Sh)(Q:VP)(E:VP),C i j→Q (.int Äc s.toks) {s with toks:=s.toks+1}→wpAny Æ X.A (f Áo (.int j u)) Q E s):
  eS X f (rI C λi j=>.int Äc):=by
 show î;obtain⟨i,j,rfl,rfl,hc,q⟩:=h;obtain⟨t,rfl⟩:=rx;obtain⟨t',rfl⟩:=ry;exact rule i j t t' s _ _ hc ⟨.int Äc,H,I.tok _,⟨_,rfl⟩,q⟩
def Dl{f:Value→Value→Sem Value}{g:Int→Int→Int}(rule:∀(i j:Int)(t u:Tok)(s:Sh)(Q:VP)(E:VP),Q (.int Äc s.toks) {s with toks:=s.toks+1}→wpAny Æ X.A (f Áo (.int j u)) Q E s):
  eS X f (gv λi j=>.int Äc):=by
 show î;obtain⟨i,j,rfl,rfl,q⟩:=h;obtain⟨t,rfl⟩:=rx;obtain⟨t',rfl⟩:=ry;exact rule i j t t' s _ _ ⟨.int Äc,H,I.tok _,⟨_,rfl⟩,q⟩
def Hr{f:Value→Value→Sem Value}{g:Int→Int→Bool}(rule:∀(i j:Int)(t u:Tok)(s:Sh)(Q:VP)(E:VP),Q (.bool Äc) s→wpAny Æ X.A (f Áo (.int j u)) Q E s):
  eS X f (gv λi j=>.bl Äc):=by
 show î;obtain⟨i,j,rfl,rfl,q⟩:=h;obtain⟨t,rfl⟩:=rx;obtain⟨t',rfl⟩:=ry;exact rule i j t t' s _ _ ⟨.bl Äc,H,I,rfl,q⟩
def Zm(i j:Int):Prop:=0<j∧j<1073741824
def Pe(i j:Int):Prop:=0≤j∧j≤1000000∧i.natAbs<2^64
def Hs(i j:Int):Prop:=(-(2^64)<i∧i<2^64)∨(-(2^64)<j∧j<2^64)
def Hs.ok(h:Hs i j):IntMulOk i j:=by
 rcases h with ⟨h1,h2⟩|⟨h1,h2⟩
 ·exact .of_left (intBits_le_64 h1 h2)
 ·exact .of_right (intBits_le_64 h1 h2)
def Zn(k:Nat):(0:Int)≤2^k:=by
 grind
def qj:eS X (binaryOp .Add) (gv λi j=>.int (i+j)):=Dl λ_ _ _ _ _ _ _ q=>add_int q
def qk:eS X (binaryOp .Sub) (gv λi j=>.int (i-j)):=Dl λ_ _ _ _ _ _ _ q=>sub_int q
def Zo:eS X (binaryOp .Mult) (rI Hs λi j=>.int (i*j)):=Ax λ_ _ _ _ _ _ _ hc q=>mul_int q hc.ok
def Zp:eS X (binaryOp .FloorDiv) (rI Zm λi j=>.int (i/j)):=Ax λi j _ _ _ _ _ hc q=>by
 have h1:(0:Int)<j:=hc.1;have h2:j<1073741824:=hc.2;exact floordiv_int Ä (by grind) (.inl (PyProof.noPylong_small Ä))
def Ht:eS X (binaryOp .Mod) (rI (λ_ j=>0<j) λi j=>.int (i%j)):=Ax λi j _ _ _ _ _ hc q=>by
 have h1:(0:Int)<j:=hc;exact mod_int' Ä (by rw[Int.fmod_eq_emod_of_nonneg i Ä];exact q)
def Hu:eS X (binaryOp .LShift) (rI Pe λi j=>.int (i*2^j.toNat)):=Ax λ_ _ _ _ _ _ _ hc q=>lshift_int_small hc.1 hc.2.1 hc.2.2 q
def Pf:eS X (binaryOp .RShift) (rI (λ_ j=>0≤j) λi j=>.int (i/2^j.toNat)):=Ax λi j _ _ _ _ _ hc q=>
 rshift_int hc (by rw[Int.fdiv_eq_ediv_of_nonneg i (Zn _)];exact q)
def Ay:eS X (binaryOp .BitAnd) (gv λi j=>.int ŏ):=Dl λ_ _ _ _ _ _ _ q=>and_int q
def Zq:eS X (inplaceOp .Add) (gv λi j=>.int (i+j)):=Dl λ_ _ _ _ _ _ _ q=>iadd_int q
def Ph{f:Value→Sem Value}{g:Int→Int}(rule:∀(i:Int)(t:Tok)(s:Sh)(Q:VP)(E:VP),Q (.int (g i) s.toks) {s with toks:=s.toks+1}→wpAny Æ X.A (f Áo) Q E s):
  Dj X f (rU λi=>.int (g i)):=by
 intro pins s σ H x v Q I rx h;obtain⟨i,rfl,q⟩:=h;obtain⟨t,rfl⟩:=rx;exact rule i t s _ _ ⟨.int (g i),H,I.tok _,⟨_,rfl⟩,q⟩
def j9:Dj X (unaryOp .USub) (rU λi=>.int (-i)):=Ph λ_ _ _ _ _ q=>neg_int q
def Pi:Dj X (unaryOp .Invert) (rU λi=>.int Äq):=Ph λ_ _ _ _ _ q=>invert_int q
end
def Pj:V→V→Bool
 |.aJ,.aJ=>true|.aJ,.int _=>true|.int _,.aJ=>true|.aJ,.bl _=>true|.bl _,.aJ=>true|.aJ,.str _=>true|.str _,.aJ=>true
 |.int _,.int _=>true|.bl _,.bl _=>true|.str _,.str _=>true|.ja _,.ja _=>true
 |.int _,.str _=>true|.str _,.int _=>true|.bl _,.str _=>true|.str _,.bl _=>true
 |_,_=>false
def nW:R2:=λx y H Q=>Pj x y=true∧Q (.bl (decide (x=y))) H
def Zr:R2:=λx y H Q=>Pj x y=true∧Q (.bl (!decide (x=y))) H
def lK:decide (V.int i=V.int j)=(i==j):=by
 grind
def Pk:decide (V.bl i=V.bl j)=(i==j):=by
 grind
def Pl:decide (V.str i=V.str j)=(i==j):=by
 grind
def Pn:decide (V.ja i=V.ja j)=(i.toList==j.toList):=by
 rw[oP];simp
section
def fX(I:Á H s)(q:Q (.bl k) H)(e:k=k'):ð Q (.bool k') s:=by
 subst e;exact⟨.bl k,H,I,rfl,q⟩
def hJ:eS X Ád nW:=by
 show î;obtain⟨hs,q⟩:=h;cases x with
 |aJ=>
  cases rx;cases y with
  |aJ=>cases ry;exact PySem.EqNone.eq_none_none Ā
  |bl j=>cases ry;exact PySem.EqNone.eq_none_bool Ā
  |int j=>obtain⟨t',rfl⟩:=ry;exact PySem.EqNone.eq_none_int Ā
  |str j=>obtain⟨t',rfl⟩:=ry;exact PySem.EqNone.eq_none_str Ā
  |_=>exact absurd (show false=true from hs) dZ
 |bl i=>
  cases rx;cases y with
  |aJ=>cases ry;exact PySem.EqNone.eq_bool_none Ā
  |bl j=>cases ry;exact eq_bool (fX I q Pk)
  |str j=>obtain⟨t',rfl⟩:=ry;exact PySem.EqMixed.eq_bool_str Ā
  |_=>exact absurd (show false=true from hs) dZ
 |int i=>
  obtain⟨t,rfl⟩:=rx;cases y with
  |aJ=>cases ry;exact PySem.EqNone.eq_int_none Ā
  |int j=>obtain⟨t',rfl⟩:=ry;exact eq_int (fX I q lK)
  |str j=>obtain⟨t',rfl⟩:=ry;exact PySem.EqMixed.eq_int_str Ā
  |_=>exact absurd (show false=true from hs) dZ
 |str i=>
  obtain⟨t,rfl⟩:=rx;cases y with
  |aJ=>cases ry;exact PySem.EqNone.eq_str_none Ā
  |bl j=>cases ry;exact PySem.EqMixed.eq_str_bool Ā
  |int j=>obtain⟨t',rfl⟩:=ry;exact PySem.EqMixed.eq_str_int Ā
  |str j=>obtain⟨t',rfl⟩:=ry;exact eq_str (fX I q Pl)
  |_=>exact absurd (show false=true from hs) dZ
 |ja i=>
  obtain⟨t,rfl⟩:=rx;cases y with
  |ja j=>obtain⟨t',rfl⟩:=ry;exact PySem.W.eq_bytes (fX I q Pn)
  |_=>exact absurd (show false=true from hs) dZ
 |_=>cases y <;> exact absurd (show false=true from hs) dZ
def u0:eS X Ám Zr:=by
 show î;obtain⟨hs,q⟩:=h;cases x with
 |aJ=>
  cases rx;cases y with
  |aJ=>cases ry;exact PySem.EqNone.ne_none_none Ā
  |bl j=>cases ry;exact PySem.EqNone.ne_none_bool Ā
  |int j=>obtain⟨t',rfl⟩:=ry;exact PySem.EqNone.ne_none_int Ā
  |str j=>obtain⟨t',rfl⟩:=ry;exact PySem.EqNone.ne_none_str Ā
  |_=>exact absurd (show false=true from hs) dZ
 |bl i=>
  cases rx;cases y with
  |aJ=>cases ry;exact PySem.EqNone.ne_bool_none Ā
  |bl j=>cases ry;exact ne_bool (fX I q (cz not Pk))
  |str j=>obtain⟨t',rfl⟩:=ry;exact PySem.EqMixed.ne_bool_str Ā
  |_=>exact absurd (show false=true from hs) dZ
 |int i=>
  obtain⟨t,rfl⟩:=rx;cases y with
  |aJ=>cases ry;exact PySem.EqNone.ne_int_none Ā
  |int j=>obtain⟨t',rfl⟩:=ry;exact ne_int (fX I q (cz not lK))
  |str j=>obtain⟨t',rfl⟩:=ry;exact PySem.EqMixed.ne_int_str Ā
  |_=>exact absurd (show false=true from hs) dZ
 |str i=>
  obtain⟨t,rfl⟩:=rx;cases y with
  |aJ=>cases ry;exact PySem.EqNone.ne_str_none Ā
  |bl j=>cases ry;exact PySem.EqMixed.ne_str_bool Ā
  |int j=>obtain⟨t',rfl⟩:=ry;exact PySem.EqMixed.ne_str_int Ā
  |str j=>obtain⟨t',rfl⟩:=ry;exact ne_str (fX I q (cz not Pl))
  |_=>exact absurd (show false=true from hs) dZ
 |ja i=>
  obtain⟨t,rfl⟩:=rx;cases y with
  |ja j=>obtain⟨t',rfl⟩:=ry;exact PySem.W.ne_bytes (fX I q (cz not Pn))
  |_=>exact absurd (show false=true from hs) dZ
 |_=>cases y <;> exact absurd (show false=true from hs) dZ
def wH:eS X Çf (gv λi j=>.bl (decide (i<j))):=Hr λ_ _ _ _ _ _ _ q=>lt_int q
def wI:eS X (compareOp .LtE) (gv λi j=>.bl (decide (i≤j))):=Hr λ_ _ _ _ _ _ _ q=>le_int q
def u4:eS X (compareOp .Gt) (gv λi j=>.bl (decide (j<i))):=Hr λ_ _ _ _ _ _ _ q=>gt_int q
def bT(b:Expr)(h:op≠ .In:=by decide)(h2:op≠ .NotIn:=by decide):behindInMarks op b=false:=by
 have e1:(op==CmpOp.In)=false:=by cases op <;> first|rfl|exact absurd rfl h
 have e2:(op==CmpOp.NotIn)=false:=by cases op <;> first|rfl|exact absurd rfl h2
 cases b <;> simp[behindInMarks,e1,e2]
def jt{op:CmpOp}{r:R2}(ho:eS X Äg r)(ha:Ϩ ta)(hb:PE X b tb)(hm:behindInMarks op b=false):PE X ϙ Æn:=by
 show Ô;exact wpAny_Compare1 (Hq ha hb I h λv u s2 x y H2 I2 rx ry q=>ho pins s2 σ H2 x y v u Q I2 rx ry q) hm
def mQ(t:TE):TT:=λσ H Q=>t σ H λx H'=>yo x λk=>Q k H'
def cI(ho:eS X Äg r)(ha:Ϩ ta)(hb:PE X b tb)(hm:behindInMarks op b=false):PT X ϙ (mQ Æn):=by
 show Ô;refine wpAny_isTrue_Compare1 (aL (ha pins s σ H _ I h) λv s1 ⟨x,H1,I1,r1,q1⟩=>aL (hb pins s1 σ H1 _ I1 q1) λu s2 ⟨y,H2,I2,r2,q2⟩=>
  aL (ho pins s2 σ H2 x y v u _ I2 r1 r2 q2) λc s3 ⟨z,H3,I3,r3,k,e,q3⟩=>?_) hm
 subst e;cases r3;exact sZ ⟨H3,I3,q3⟩
def Hv(r r':R2)(ta tb tc:TE):TE:=λσ H Q=>ta σ H λx H1=>tb σ H1 λy H2=>r x y H2 λz H3=>yo z λk=>
 (if k=true then tc σ H3 λw' H4=>r' y w' H4 Q else Q (.bl false) H3)
theorem Po(ho:eS X Äg r)(oS:eS X (compareOp op') r')(ha:Ϩ ta)(hb:PE X b tb)(hc:PE X c tc)(hm:lastMarks [op,op'] [b,c]=false:=by with_unfolding_all rfl):PE X (.Compare a [op,op'] [b,c] pos) (Hv r r' ta tb tc):=by
 show Ô;refine Compare_chain (aL (ha pins s σ H _ I h) λv s1 ⟨x,H1,I1,r1,q1⟩=>chain_link (aL (hb pins s1 σ H1 _ I1 q1) λu s2 ⟨y,H2,I2,r2,q2⟩=>
  aL (ho pins s2 σ H2 x y v u _ I2 r1 r2 q2) λd s3 ⟨z,H3,I3,r3,k,e,q3⟩=>?_)) hm
 subst e;cases r3;refine sZ ?_;cases k with
 |false=>exact ite_ff ⟨.bl false,H3,I3,rfl,q3⟩
 |true=>exact ite_tt (chain_last (aL (hc pins s3 σ H3 _ I3 q3) λw' s4 ⟨z',H4,I4,r4,q4⟩=>oS pins s4 σ H4 y z' u w' Q I4 r2 r4 q4))
theorem Zs(ho:eS X Äg r)(oS:eS X (compareOp op') r')(ha:Ϩ ta)(hb:PE X b tb)(hc:PE X c tc)(hm:lastMarks [op,op'] [b,c]=false:=by with_unfolding_all rfl):PT X (.Compare a [op,op'] [b,c] pos) (mQ (Hv r r' ta tb tc)):=by
 show Ô;refine isTrue_chain (aL (ha pins s σ H _ I h) λv s1 ⟨x,H1,I1,r1,q1⟩=>test_link (aL (hb pins s1 σ H1 _ I1 q1) λu s2 ⟨y,H2,I2,r2,q2⟩=>
  aL (ho pins s2 σ H2 x y v u _ I2 r1 r2 q2) λd s3 ⟨z,H3,I3,r3,k,e,q3⟩=>?_)) hm
 subst e;cases r3;refine sZ ?_;cases k with
 |false=>
  obtain⟨k',e',q'⟩:=q3;cases e';exact ite_ff ⟨H3,I3,q'⟩
 |true=>
  refine ite_tt (test_last (aL (hc pins s3 σ H3 _ I3 q3) λw' s4 ⟨z',H4,I4,r4,q4⟩=>aL (oS pins s4 σ H4 y z' u w' _ I4 r2 r4 q4) λd' s5 ⟨z2,H5,I5,r5,k2,e2,q5⟩=>?_));subst e2;cases r5;exact sZ ⟨H5,I5,q5⟩
def Hw(K:FR)(x:V)(H:Hp)(k:Bool):Prop:=
 match x with
 |.aJ=>k=false
 |.bl b=>k=b
 |.int i=>k=(i !=0)
 |.str y=>y.length≤sizeLine∧k=((y.length:Int)!=0)
 |.ja y=>y.size≤sizeLine∧k=((y.size:Int)!=0)
 |.ref p=>(∃xs,ß p xs∧k=!xs.isEmpty)∨(∃xs,ť p xs∧k=!xs.isEmpty)∨∃kvs,H p=some č∧k=!kvs.isEmpty
 |_=>False
def Zt(r:KV kvs vs):(!vs.isEmpty)=!kvs.isEmpty:=by
 cases r <;> rfl
def Pp(r:ba xs aj):(!aj.toArray.isEmpty)=!xs.isEmpty:=by
 cases r <;> simp
def Dm:(sizeLine:Nat)<2^63:=by rw[wc];decide
def Zu:Zl X (λx H Q=>∃k,Hw X.K x H k∧Q k H):=by
 intro pins s σ H x v Q I rx h;obtain⟨k,e,q⟩:=h;have hl:=Dm;have hs:sizeLine=16777216:=wc;cases x with
 |aJ=>
  cases rx;have e':k=false:=e;subst e';exact truthy_none ⟨H,I,q⟩
 |bl b=>
  cases rx;have e':k=b:=e;subst e';exact sZ ⟨H,I,q⟩
 |int i=>
  obtain⟨t,rfl⟩:=rx;have e':k=(i !=0):=e;subst e';exact PySem.P.truthy_int ⟨H,I,q⟩
 |str y=>
  obtain⟨t,rfl⟩:=rx;obtain⟨hy,e'⟩:y.length≤sizeLine∧k=((y.length:Int)!=0):=e;subst e';exact PySem.P.truthy_str Ä ⟨H,I.tok _,q⟩
 |ja y=>
  obtain⟨t,rfl⟩:=rx;obtain⟨hy,e'⟩:y.size≤sizeLine∧k=((y.size:Int)!=0):=e;subst e';exact PySem.W.truthy_bytes Ä ⟨H,I.tok _,q⟩
 |ref p=>
  cases rx;have e':(∃xs,Àt p xs∧k=!xs.isEmpty)∨(∃xs,bu X.K H p xs∧k=!xs.isEmpty)∨∃kvs,H p=some č∧k=!kvs.isEmpty:=e;rcases e' with ⟨xs,hx,e'⟩|⟨xs,hx,e'⟩|⟨kvs,hx,e'⟩
  ·subst e';obtain⟨aj,r,pl,hz⟩:=I.list hx;have cJ:=r.length;exact wpAny_truthy_list pl.isList (by grind) ⟨H,I.tok _,by rw[Pp r];exact q⟩
  ·subst e';obtain⟨aj,r,pl,hz⟩:=I.tuple hx;have cJ:=r.length;exact truthy_tuple pl (by grind) ⟨H,I.tok _,by rw[Pp r];exact q⟩
  ·subst e';obtain⟨hz,hS,vs,r,m⟩:kvs.length≤sizeLine∧(p==sysModules)=false∧∃vs,KV kvs vs∧s.heap.DictOf ā p vs:=I.ax p _ hx;have cJ:kvs.length=vs.length:=Paired.length r;exact wpAny_truthy_dict hS m Ä ⟨H,I.tok _,by rw[Zt r];exact q⟩
 |_=>exact(show False from e).elim
def yr(ha:Ϩ ta)(he:∀whole,isTrue a X.env whole=(do let v ←whole;standAt a.pos;holding [v] (truthy v))):
  PT X a (λσ H Q=>ta σ H λx H'=>∃k,Hw X.K x H' k∧Q k H'):=by
 show Ô;exact isTrue_plain (aL (ha pins s σ H _ I h) λv s1 ⟨x,H1,I1,r1,q1⟩=>Zu pins s1 σ H1 x v Q I1 r1 q1) (he _)
theorem vals1{x:V}{us:LV}(r:ba [x] us):∃u,us=[u]∧RelV x u:=by
 cases r with
 |cons r1 r2=>cases r2;exact⟨_,rfl,r1⟩
theorem vals2(r:ba [x,y] us):∃u w',us=[u,w']∧RelV x u∧RelV y w':=by
 cases r with
 |cons r1 r2=>
  cases r2 with
  |cons r3 r4=>cases r4;exact⟨_,_,rfl,r1,r3⟩
def Hy(hc:X.calm=true):k8 X (.builtin "max") (λxs H Q=>∃i j,xs=[.int i,.int j]∧Q (.int (if j>i then j else i)) H):=by
 intro pins s σ H xs us Q I r h;obtain⟨i,j,rfl,q⟩:=h;obtain⟨u,w',rfl,⟨t,rfl⟩,⟨t',rfl⟩⟩:=vals2 r;refine max_two_ints ă λh' tk k=>⟨_,H,I.kept k,?_,q⟩;by_cases hj:j>i
 ·rw[af hj,af hj];exact⟨_,rfl⟩
 ·rw[ah hj,ah hj];exact⟨_,rfl⟩
def Zv:k8 X (.builtin "ord") (λxs H Q=>∃x,xs=[.str x]∧x.length=1∧Q (.int (x.cps.getD 0 0:Nat)) H):=by
 intro pins s σ H xs us Q I r h;obtain⟨x,rfl,hz,q⟩:=h;obtain⟨u,rfl,t,rfl⟩:=vals1 r;exact ord_of_one hz ⟨.int _,H,I.tok _,⟨_,rfl⟩,q⟩
end
end L2
namespace L2
open PySem PySem.Spec PyProof.Rows
structure yt(h:Heap)(x dx C:Addr)(mA:MG):Prop where
 obj:h.get? x=some Âp
 ns:h.Ns1 dx mA
 ne:dx≠x
def Zw{h:Heap}{dx:Addr}{mA:MG}(n:h.Ns1 dx mA):∃od,h.get? dx=some od∧∀name,PySem.W.lookIn name od=some (mA name):=by
 obtain⟨o,es,ep,ho,hd,hk,_,hm⟩:=n;refine⟨o,ho,λname=>?_⟩;have e:=hm name;unfold nsFind findBy at e;rw[←Array.find?_toList] at e;unfold PySem.W.lookIn;rw[hd];dsimp only;split
 ·simp_all
 ·rename_i q;rw[q] at e;have a:es.toList.any (·.refKey)=false:=by
   rw[List.any_eq_false];intro y hy;obtain⟨z,t,Hz⟩:=hk y (Array.mem_toList_iff.mp hy);simp[DictEntry.refKey,Hz]
  simp_all
def yt.look(I:yt h x dx C mA):∃od,PySem.W.InstAt h x Âp C (some od)∧∀name,PySem.W.lookIn name od=some (mA name):=
 let ⟨od,ho,hl⟩:=Zw I.ns
 ⟨od,⟨I.obj,rfl,rfl,ho⟩,hl⟩
section
variable{prog:Pg}{w:Wd}{A:Around}{E:VP}{s:Sh}{K:FR}{x dx C f:Addr}{mA:MG}{name:Str}{v:Value}
def get_map{aob:Bool}{Q:VP}(X:K.In s.heap)(I:yt s.heap x dx C mA)(hg:PySem.W.plainGet K C name=true)(hh:PySem.W.hasDictIn K C=true)(ha:PySem.W.findIn K ý name=some none) (hv:mA name=some v) (yu:PySem.W.handedIn v=true) (h:Q v {s with toks:=s.toks+1}):
  wpAny Ð A (getAttr Ū name aob) Q E s:=by
 obtain⟨od,J,hl⟩:=I.look;exact PySem.W.get_value X J (PySem.W.plainGet_of hg).1 (PySem.W.findObj_own hh ha rfl Ç) yu h
def Zx{ns:LS}{Q:Unit→Shared→Prop}(X:K.In s.heap)(I:yt s.heap x dx C mA)(hs:PySem.W.findIn K ý "__setattr__"=some (some (.builtin "object.__setattr__"))) (hp:PySem.W.plainOver K C=true) (ht:PySem.W.takerIn K C name=some none) (hh:PySem.W.hasDictIn K C=true)(hw:PySem.Within mA ns) (hsz:ns.length≤sizeLine)(h:∀h',yt h' x dx C (λy=>if y=name then some v else mA y)→Heap.SameBut dx s.heap h'→Q () {s with heap:=h',toks:=s.toks+2}):
  wpAny Ð A Ãv Q E s:=by
 obtain⟨od,J,hl⟩:=I.look;refine PySem.W.set_plain X J hs (PySem.W.osa_open (s:={s with toks:=s.toks+1}) (r:=none) X J hp ht λb=>?_);obtain⟨cd,hc,oU⟩:=PySem.W.any_some hh;have hx:s.heap.get? x=some ⟨.ref C,some dx,.plain,#[]⟩:=I.obj;refine aP (c7 (aP (aP (wpAny_loadPart hx (aP (PySem.W.Looks.here (s:={s with toks:=s.toks+1}) (PySem.W.looks_clsIn X hc) ?_))))));rw[oU];refine c7 (a:=some dx) (aP (c7 (aP ?_)));refine wpAny_nsSet1 (s:={s with toks:=s.toks+1}) I.ns λh' lL rF=>?_;obtain⟨oD,esD,epD,Zy,Zz,ZA⟩:=lL.count (PySem.Within.cons name v hw);refine aP (wpAny_lookBehind Zy (by rw[Zz];exact pastItsLine_dict (gW ZA (by rw[cZ];omega))) ?_);exact c7 (h _ ⟨(rF.2 _ (dJ I.ne)).trans I.obj,lL,I.ne⟩ rF)
def ZC{R:Result→Shared→Prop}{vs:LV}{kw:List (Str×Value)}(X:K.In s.heap)(hm:PySem.W.makesIn K C=true)(hi:PySem.W.findIn K ý "__init__"=some Áw) (hf:PySem.W.typeIn K ą=some (.type "function"))(h:codeAny Ð (A.under (.builtin "type.__call__" ⟨.ref C::vs,kw⟩)) (.call ą ⟨.ref Ö::vs,kw⟩) (PySem.W.InitBack Ö R) {s with heap:=(s.heap.push PySem.W.emptyDict).push Ĺ}):
  codeAny Ð A (.call ý ⟨vs,kw⟩) R s:=by
 obtain⟨hh,g,d,t,os⟩:=s;exact PySem.W.make_core (PySem.W.makes_of X hm) (PySem.W.looks_findIn X hi) (λself=>PySem.W.bind_fn X self hf) Ą h
end
def hZ(f:Str)(v:V):List (Str×V)→List (Str×V)
 |[]=>[(f,v)]
 |(g,x)::r=>if g=f then (g,v)::r else (g,x)::hZ f v r
theorem HA(f g:Str)(v:V):∀fs:List (Str×V),(hZ f v fs).lookup g=if g=f then some v else fs.lookup g:=by
 intro fs;induction fs with
 |nil=>
  show List.lookup g [(f,v)]=_;by_cases h:g=f
  ·have hb:(g==f)=true:=ya.mpr h;simp only[List.lookup,hb,af h]
  ·have hb:(g==f)=false:=wg.mpr h;simp only[List.lookup,hb,ah h]
 |cons hd0 r ih=>
  obtain⟨k,x⟩:=hd0;have ih:=ih;rw[show hZ f v ((k,x)::r)=(if k=f then (k,v)::r else (k,x)::hZ f v r) from rfl];by_cases hk:k=f
  ·rw[af hk];by_cases h:g=k
   ·have hb:(g==k)=true:=ya.mpr h;simp only[List.lookup,hb,af (h.trans hk)]
   ·have hb:(g==k)=false:=wg.mpr h;simp only[List.lookup,hb,ah (λe:g=f=>h (e.trans hk.symm))]
  ·rw[ah hk];by_cases h:g=k
   ·have hb:(g==k)=true:=ya.mpr h;simp only[List.lookup,hb,ah (λe:g=f=>hk (h.symm.trans e))]
   ·have hb:(g==k)=false:=wg.mpr h;simp only[List.lookup,hb];exact ih
theorem Az(f:Str)(v:V):∀fs:List (Str×V),f∈(hZ f v fs).map (·.1)∧∀g,g∈fs.map (·.1)→g∈(hZ f v fs).map (·.1):=by
 intro fs;induction fs with
 |nil=>exact⟨by simp[hZ],λg h=>by simp at h⟩
 |cons hd0 r ih=>
  obtain⟨k,x⟩:=hd0;obtain⟨i1,i2⟩:=ih;rw[show hZ f v ((k,x)::r)=(if k=f then (k,v)::r else (k,x)::hZ f v r) from rfl];by_cases hk:k=f
  ·rw[af hk];subst hk;exact⟨by simp,λg h=>by simpa using h⟩
  ·rw[ah hk];refine⟨?_,λg h=>?_⟩
   ·rw[aY];exact aN _ i1
   ·rw[aY] at h⊢;rcases bf.mp h with e|e
    ·exact bf.mpr (.inl e)
    ·exact aN _ (i2 g e)
theorem HB(f:Str)(v:V):∀fs:List (Str×V),(hZ f v fs).length≤fs.length+1:=by
 intro fs;induction fs with
 |nil=>
  simp[hZ]
 |cons hd0 r ih=>
  obtain⟨k,x⟩:=hd0;have ih:=ih;rw[show hZ f v ((k,x)::r)=(if k=f then (k,v)::r else (k,x)::hZ f v r) from rfl];by_cases hk:k=f
  ·rw[af hk,cZ,cZ];omega
  ·rw[ah hk,cZ,cZ];omega
theorem jH.some_of(r:jH Än o):∃u,o=some u∧RelV v u:=by
 cases o with
 |none=>exact(show False from r).elim
 |some u=>exact⟨u,rfl,r⟩
theorem ZD(r:RelV v u):PySem.W.handedIn u=true:=by
 cases v with
 |aJ=>cases (show u=Value.none from r);rfl
 |bl b=>cases (show u=Value.bool b from r);rfl
 |int i=>obtain⟨t,e⟩:=(show ∃t,u=Value.int i t from r);cases e;rfl
 |str x=>obtain⟨t,e⟩:=(show ∃t,u=Value.str x t from r);cases e;rfl
 |ja b=>obtain⟨t,e⟩:=(show ∃t,u=Value.bytes b t from r);cases e;rfl
 |Aj b=>obtain⟨t,e⟩:=(show ∃t,u=Value.float b t from r);cases e;rfl
 |ref a=>cases (show u=Value.ref a from r);rfl
 |ty n=>cases (show u=Value.type n from r);rfl
section
variable{P:Pg}{w:Wd}{H H':Hp}{h h':Heap}{a C dx:Addr}{fs yw:List (Str×V)}
def Pq(ax:Į h)(e:H a=some Ϙ):∃mA,yt h a dx C mA∧(∀f,jH Ày (mA f))∧PySem.Within mA (fs.map (·.1))∧fs.length≤1000∧H dx=some (.own a):=by
 obtain⟨d,z,ne,ob,mA,n,r,q⟩:=(show fm P w H h a Ϙ from ax a _ e);exact⟨mA,⟨ob,n,ne⟩,r,q,z,d⟩
end
structure kh(K:FR)(C:Addr):Prop where
 pg:PySem.W.plainGet K C Str.empty=true
 hd:PySem.W.hasDictIn K C=true
 po:PySem.W.plainOver K C=true
 sa:PySem.W.findIn K ý "__setattr__"=some (some (.builtin "object.__setattr__"))
def kh.get{K:FR}{C:Addr}(c:kh K C)(f:Str):PySem.W.plainGet K C f=true:=c.pg
def gw(K:FR)(C:Addr)(f:Str):Prop:=PySem.W.findIn K ý f=some none
def gw.ZE{K:FR}{C:Addr}{f:Str}(n:ϧ f):PySem.W.takerIn K C f=some none:=by
 unfold PySem.W.takerIn;rw[show PySem.W.findIn K ý f=some none from n];rfl
section
variable{X:Cx}{pins:bI}{σ:St}{H:Hp}{s:Sh}{a C dx:Addr}{fs:List (Str×V)}{f:Str}{v:V}{A:Around}{E:VP}
def ZF{b:Bool}{Q:VP}(I:Á H s)(e:H a=some Ϙ)(c:kh X.K C)(n:gw X.K C f)(l:fs.lookup f=some v)(h:∀u s',Á H s'→RelV v u→Q u s'):wpAny Æ A (getAttr Ě f b) Q E s:=by
 obtain⟨mA,O,r,_,_,_⟩:=Pq I.ax e;obtain⟨u,hu,ru⟩:=jH.some_of (v:=v) (o:=mA f) (by grind);exact get_map I.fW O (c.get f) c.hd n hu (ZD ru) (h u _ (I.tok _) ru)
def ZG{y:V}{u:Value}{Q:Unit→Shared→Prop}(I:Á H s)(e:H a=some Ϙ)(c:kh X.K C)(n:gw X.K C f)(hl:fs.length<1000)(ry:RelV y u)(h:∀s',Á (Ŧ (.ins C dx (hZ f y fs))) s'→Q () s'):wpAny Æ A (setAttr Ě f u) Q E s:=by
 obtain⟨mA,O,r,wi,_,ho⟩:=Pq I.ax e;have hz:(fs.map (·.1)).length≤sizeLine:=by rw[aA,wc];omega
 refine Zx I.fW O c.sa c.po n.ZE c.hd wi hz λh' O' sb=>h _ ?_;have hd:∃o,h'.get? dx=some o:=let ⟨o,_,_,e',_⟩:=O'.ns;⟨o,e'⟩;refine I.write (x:=a) (e:=dx) (by rw[e];exact True.intro) (.inr ho) (λb q hb z=>(sb.2 b hb).trans z) hd ?_;refine⟨by rw[au O.ne];exact ho,?_,O.ne,O'.obj,_,O'.ns,λg=>?_,λg hg=>?_⟩
 ·have:=HB f y fs;omega
 ·show jH ((hZ f y fs).lookup g) (if g=f then some u else mA g);rw[HA];by_cases q:g=f
  ·rw[af q,af q];exact ry
  ·simp_all
 ·by_cases q:g=f
  ·rw[q];exact(Az f y fs).1
  ·refine(Az f y fs).2 g (wi g λz=>hg ?_);simp_all
def Inv.made(I:Á H s):Á (upd (ě (.own Ö)) Ö (.ins C s.heap.objs.size [])) {s with heap:=(s.heap.push PySem.W.emptyDict).push Ĺ}:=by
 have e1:(s.heap.push PySem.W.emptyDict).get? s.heap.objs.size=some PySem.W.emptyDict:=g9 s.heap rfl;have e2:((s.heap.push PySem.W.emptyDict).push Ĺ).get? Ö=some Ĺ:=by
  have:=g9 (s.heap.push PySem.W.emptyDict) (o:=PySem.W.instObj C s.heap.objs.size) rfl;simp_all
 have e3:(s.heap.push PySem.W.emptyDict).Ns s.heap.objs.size (λ_=>none):=⟨PySem.W.emptyDict,#[],_,e1,rfl,(λe he=>absurd he Â),λ_=>rfl⟩;have I1:=I.laid (a:=s.heap.objs.size) (o:=.own Ö) (h':=s.heap.push PySem.W.emptyDict) (t':=s.toks) (λb u q=>dh _ q) (bO _) ⟨_,e1⟩;refine I1.laid (a:=s.heap.objs.size+1) (o:=.ins C s.heap.objs.size []) (t':=s.toks) (λb u q=>dh _ q) (Cv (pY _ _)) ?_;have ne:s.heap.objs.size≠s.heap.objs.size+1:=fU (Xl _);refine⟨by rw[au ne,ao],dQ _,ne,e2,λ_=>none,(Heap.Ns1.of_empty e3).at λo q=>dh _ q,λ_=>True.intro,λy hy=>absurd rfl hy⟩
def ZH(hb:attributeBase e f env (eval e env)=eval e env)(h:wpAny Ð A (eval e env) (λo s₁=>wpAny Ð A (getAttr o f true) Q E s₁) E s):wpAny Ð A (eval (.Attribute e f pos) env) Q E s:=
 Attribute_any_ h (by rw[arm_eval_Attribute,hb])
end
def fY(K:FR)(ta:TE)(f:Str):TE:=λσ H Q=>ta σ H λx H1=>∃a C dx fs v,x=.ref a∧H1 a=some Ϙ∧kh K C∧ϧ f∧fs.lookup f=some v∧Q v H1
def Do(K:FR)(ta tv:TE)(f:Str):TS:=λD σ H=>tv σ H λy H1=>ta σ H1 λx H2=>∃a C dx fs,x=.ref a∧H2 a=some Ϙ∧kh K C∧ϧ f∧fs.length<1000∧
 D.nx σ (upd H2 a (.ins C dx (hZ f y fs)))
section
def bj(he:ϝ ta)(hb:attributeBase e f X.env Àf=eval e X.env):PE X (.Attribute e f pos) (fY X.K ta f):=by
 show Ô;refine ZH hb (aL (he pins s σ H _ I h) λu s1 ⟨x,H1,I1,rx,a,C,dx,fs,v,ex,ea,c,n,l,q⟩=>?_);subst ex;obtain rfl:u=Value.ref a:=rx;exact ZF I1 ea c n l λu' s2 I2 ru=>⟨v,H1,I2,ru,q⟩
def e9(ha:PE X o ta)(hv:PE X i5 tv)(hs:swapsWith i5 (some (.Attribute o f kU)) pos.line X.env=pure false):PS X (.Assign [.Attribute o f kU] i5 pos) (Do X.K ta tv f):=by
 intro pins s σ H D I h;refine Xm (aL (hv pins s σ H _ I h) λu s1 ⟨y,H1,I1,ry,q⟩=>aL (ha pins s1 σ H1 _ I1 q) λov s2 ⟨x,H2,I2,rx,a,C,dx,fs,ex,ea,c,n,l,q2⟩=>?_) hs;subst ex;obtain rfl:ov=Value.ref a:=rx;exact ZG I2 ea c n l ry λs3 I3=>⟨σ,_,I3,q2⟩
def ZI:R2:=gv λi j=>.int (i+j)
end
section
variable{X:Cx}{pins:bI}{σ:St}{H:Hp}{s:Sh}{A:Around}{E:VP}{Q:VP}{c:Value}{b:Bool}
end
end L2
namespace L2
open PySem PySem.Spec PyProof.Rows
structure dw(k:Nat)(A:Around):Prop where
 hd:A.handled=none
 dp:A.depth+3*k+5<recursionLimit
 un:A.units+16*k+200<cLine
def dw.mono(r:dw k A)(h:j≤k):dw j A:=⟨r.hd,by have:=r.dp;omega,by have:=r.un;omega⟩
def dw.deeper(r:dw (k+1) A)(env:Env):dw k (A.deeper env):=
 ⟨r.hd,by have:=r.dp;show A.depth+1+3*k+5<_;omega,by have:=r.un;show A.units+3+16*k+200<_;omega⟩
def ZJ{A:Around}{C:Addr}{us:LV}{kw:List (Str×Value)}:(A.under (.builtin "type.__call__" ⟨.ref C::us,kw⟩)).depth=A.depth+1:=by
 rfl
def ZK{A:Around}{C:Addr}{us:LV}{kw:List (Str×Value)}:(A.under (.builtin "type.__call__" ⟨.ref C::us,kw⟩)).units=A.units+1:=by
 rfl
def dw.make(r:dw (k+1) A)(C:Addr)(us:LV)(kw:List (Str×Value)):dw k (A.under (.builtin "type.__call__" ⟨.ref C::us,kw⟩)):=
 ⟨r.hd,by have:=r.dp;rw[ZJ];omega,by have:=r.un;rw[ZK];omega⟩
def dw.depth(r:dw k A):A.depth<recursionLimit:=by have:=r.dp;omega
def dw.units(r:dw k A):A.units+64<cLine:=by have:=r.un;omega
def dw.ZL(r:dw k A):A.units<cLine:=by have:=r.un;omega
def du:TA:=λ_ H Q=>Q [] H
def bg(ta:TE)(tr:TA):TA:=λσ H Q=>ta σ H λx H1=>tr σ H1 λxs H2=>Q (x::xs) H2
section
def ag:PA X [] du:=λ_ _ _ _ H Q I h=>Oi ⟨[],H,I,.nil,h⟩
def ae(ha:ϝ te)(hr:PA X es t)(hs:starEach (e::es) X.env=(false,eval e X.env)::starEach es X.env:=by rfl):PA X (e::es) (bg te t):=by
 intro pos pins s σ H Q I h;rw[hs];show wpAny _ _ (spliced ((false,eval e X.env)::backTo pos ô)) _ _ s;refine CD (aL (ha pins s σ H _ I h) λu s1 ⟨x,H1,I1,r1,q1⟩=>?_);exact aL (hr pos pins s1 σ H1 _ I1 q1) λus s2 ⟨xs,H2,I2,r2,q2⟩=>⟨x::xs,H2,I2,.cons r1 r2,q2⟩
def wJ(t:TA):TE:=λσ H Q=>t σ H λxs H1=>xs.length≤sizeLine∧∀p,H1 p=none→Q Ģ (upd H1 p ϰ)
def yx(t:TA):TE:=λσ H Q=>t σ H λxs H1=>xs.length≤sizeLine∧∀p,H1 p=none→Q Ģ (upd H1 p ϱ)
def tO{x1}(h:PA X es t):PE X (.Tuple es x1 pos) (wJ t):=by
 intro pins s σ H Q I hq;refine wpAny_Tuple_spliced (aL (h pos pins s σ H _ I hq) λus s1 ⟨xs,H1,I1,r,z,q⟩=>⟨by rw[←r.length];exact z,?_⟩);have hf:H1 s1.heap.objs.size=none:=I1.ax.fresh (bO _);refine⟨.ref s1.heap.objs.size,upd H1 s1.heap.objs.size ϰ,I1.laid (t':=s1.toks) (λb u e=>dh _ e) (bO _) ?_,rfl,q _ hf⟩;exact⟨z,us,r,⟨_,g9 _ rfl,rfl,_,rfl⟩⟩
def eG(h:PA X es t):PE X (.List es pos) (yx t):=by
 intro pins s σ H Q I hq;refine wpAny_List_spliced (aL (h pos pins s σ H _ I hq) λus s1 ⟨xs,H1,I1,r,z,q⟩=>⟨by rw[←r.length];exact z,?_⟩);have hf:H1 s1.heap.objs.size=none:=I1.ax.fresh (bO _);refine⟨.ref s1.heap.objs.size,upd H1 s1.heap.objs.size ϱ,I1.laid (t':=s1.toks) (λb u e=>dh _ e) (bO _) ?_,rfl,q _ hf⟩;exact⟨z,us,0,r,g9 _ rfl⟩
end
abbrev Sp:=aq→Hp→VK→XK→Prop
abbrev mT:=List Env→Hp→Shared→XK→VP
structure u5(P:Pg)(w:Wd)(K:FR)(mg:MG)(base:Heap)(A:Around)(outer:List Env)(s:Sh)(H:Hp):Prop where
 frames:A.frames=some outer
 mod:Mod K mg base
 bs:∀b o,base.get? b=some o→s.heap.get? b=some o∧H b=none
 qe:base.objs.size≤s.heap.objs.size
 nP:s.heap.FunFrames base outer
 uT:∀b∈nO outer,H b=none
 ax:Į s.heap
 bare:AllBare s.gens
def CE(outer:List Env)(P:Pg)(w:Wd)(H:Hp)(s:Sh)(Q:VK)(u:Value)(s':Sh):Prop:=
 ∃v H',s'.os=s.os∧AllBare s'.gens∧Un (nO outer) [] H H' s.heap s'.heap∧eO P w H' s'.heap∧RelV v u∧Q v H'
def CR(CX:mT)(outer:List Env)(P:Pg)(w:Wd)(H:Hp)(s:Sh)(Q:VK)(E:XK)(r:Result)(s':Sh):Prop:=
 match r with
 |.ok (.ret u)=>CE outer P w H s Q u s'
 |.ok _=>False
 |.error e=>CX outer H s E e s'
structure a8(P:Pg)(w:Wd)(K:FR)(mg:MG)(base:Heap)(CX:mT)(k:Nat)(f:Addr)(fd:FD)(ps:LS)(sp:Sp):Prop where
 len:∀vs H Q E,sp vs H Q E→vs.length=ps.length
 run:∀(A:Around)(outer:List Env)(s:Sh)(H:Hp)(args:Args)(us:LV)(vs:aq)(Q:VK)(E:XK),dw k A→ŭ H→BindsTo s fd args ϟ→ba vs us→sp vs H Q E→
  codeAny Àh A (.call ą args) (CR CX outer P w H s Q E) s
def u5.make{P:Pg}{w:Wd}{K:FR}{mg:MG}{base:Heap}{A:Around}{outer:List Env}{s:Sh}{H:Hp}(e:ŭ H)(C:Addr)(us:LV)(kw:List (Str×Value)):
  u5 P w K mg base (A.under (.builtin "type.__call__" ⟨.ref C::us,kw⟩)) outer s H:=⟨by first|exact e.frames|(simpa [Around.under,Code.envs,Code.isFrame,pushEnvs] using e.frames),e.mod,e.bs,e.qe,e.nP,e.uT,e.ax,e.bare⟩
section
variable{X:Cx}{pins:bI}{σ:St}{H:Hp}{s s':Sh}
def Inv.AA(I:Á H s):u5 X.prog X.w X.K X.mg X.base X.A X.stack s H:=
 ⟨I.ok.frames,I.ok.mod,I.bs,gW I.ok.qe I.sz,I.stack,I.C7,I.ax,I.bare⟩
def Inv.after(I:Á H s)(h:CE X.stack X.prog X.w H s Q u s'):ð Q u s':=by
 obtain⟨v,H',os,bare,un,ax,r,q⟩:=h;obtain⟨hh,g,d,t,ZM⟩:=s';obtain rfl:ZM=s.os:=os;exact⟨v,H',I.call (h':=hh) (g':=g) (d':=d) (t':=t) (ch:=[]) un ax bare Ĵ,r,q⟩
end
def gY(sp:Sp)(iR:aq)(E:XK)(t:TA):TE:=λσ H Q=>t σ H λvs H1=>sp (vs++iR) H1 Q E
def Pt(C:Addr)(sp:Sp)(iR:aq)(E:XK)(t:TA):TE:=λσ H Q=>t σ H λvs H1=>∀x dx,H1 x=none→H1 dx=none→dx≠x→
 sp (.ref x::(vs++iR)) (upd (upd H1 dx Äs) x Âc) (λv H2=>v=.aJ∧Q Ū H2) E
def Binds(K:FR)(fd:FD)(ps:LS)(ds:LV):Prop:=
 ∀(s:Sh)(us:LV),K.In s.heap→(us++ds).length=ps.length→BindsTo s fd ⟨us,[]⟩ (ps.zip (us++ds))
def Binds.all{K:FR}{fd:FD}{ps:LS}(h:∀us:LV,us.length=ps.length→bindArgs fd ⟨us,[]⟩=pure ϟ):Binds K fd ps []:=λs us _ hl=>by
 rw[kY] at hl⊢;exact .of_eq (h us hl)
def tP(CX:mT)(X:Cx)(E:XK):Prop:=∀(pins:bI)(σ:St)(H:Hp)(s:Sh)(e:Value)(s':Sh),Á H s→CX X.stack H s E e s'→X.xe e s'
section
def ZN(F:þ fd ps sp)(hr:dw k X.A)(hb:ŝ ds)(hd:ba iR ds)(hx:tP CX X E)(I:Á H s) (r:ba vs us) (h:sp (vs++iR) H Q E):wpAny Æ X.A (call ą us) (ð Q) X.xe s:=by
 have r2:ba (vs++iR) (us++ds):=r.append hd;have hl:(us++ds).length=ps.length:=by rw[←r2.length];exact F.len _ _ _ _ h
 refine Cr (wb (F.run X.A X.stack s H ⟨us,[]⟩ (us++ds) (vs++iR) Q E hr I.AA (hb s us I.fW hl) r2 h) λr s' hq=>?_);cases r with
 |error e=>exact hx pins σ H s e s' I hq
 |ok fl=>
  cases fl with
  |ret u=>exact I.after hq
  |next=>exact False.elim hq
  |brk=>exact False.elim hq
  |cont=>exact False.elim hq
def lN(F:þ fd ps sp)(hr:dw k X.A)(hg:Gl X x)(hm:X.mg x=some ą)(hk:PySem.W.keepIn X.K ą=true)(hb:ŝ ds)(hd:ba iR ds)(hx:tP CX X E)(ha:PA X (e::es) t) (ju:(x==("__debug__":Str))=false:=by decide) (he:starEach (e::es) X.env=(false,eval e X.env)::starEach es X.env:=by rfl) (df:(backTo pos ô).any (·.1)=false:=by rfl):
  PE X (.Call ž (e::es) [] pos) (gY sp iR E t):=by
 show Ô;refine yb (wy I hg hm ?_ ju);refine PySem.W.callWith_K (h₀:=X.base) I.ok.mod.uS hk (aL (ha pos pins s σ H _ I h) λus s1 ⟨vs,H1,I1,r,q⟩=>Ãn) he df;exact ZN F hr hb hd hx I1 r q
structure Mk(K:FR)(C f:Addr):Prop where
 makes:PySem.W.makesIn K C=true
 init:PySem.W.findIn K ý "__init__"=some Áw
 fn:PySem.W.isFn K ą=true
 kp:PySem.W.keepIn K ý=true
def ZO{pins:bI}{σ:St}{H:Hp}{s:Sh}{Q:VK}{us:LV}{vs:aq}(M:Mk X.K C f)(F:þ fd ps sp)(hr:dw (k+1) X.A)(hb:ŝ ds)(hd:ba iR ds)(hx:tP CX X E) (I:Á H s) (r:ba vs us)(h:∀x dx,H x=none→H dx=none→dx≠x→sp (.ref x::(vs++iR)) (upd (upd H dx Äs) x Âc) (λv H2=>v=.aJ∧Q Ū H2) E):
  wpAny Æ X.A (call ý us) (ð Q) X.xe s:=by
 have hq:=h Ö s.heap.objs.size (I.ax.fresh (Xn _)) ħ (fU (Xl _));have I2:=Inv.made (C:=C) I;have r2:ba (V.ref Ö::(vs++iR)) (Value.ref Ö::(us++ds)):=.cons rfl (r.append hd);have hl:(Value.ref Ö::us++ds).length=ps.length:=by
  have e:=r2.length;rw[F.len _ _ _ _ hq] at e;simp_all
 refine Cr (ZC (f:=f) I.fW M.makes M.init (ya.mp M.fn) (wb (F.run _ X.stack _ _ ⟨Value.ref Ö::us,[]⟩ (Value.ref Ö::(us++ds)) _ _ E (hr.make C us [])
  (I2.AA.make C us []) (hb _ (Value.ref Ö::us) I2.fW hl) r2 hq) λr s' k9=>?_))
 cases r with
 |error e=>exact hx pins σ _ _ e s' I2 k9
 |ok fl=>
  cases fl with
  |ret u=>
   obtain⟨v,H',I3,rv,ev,q3⟩:=I2.after k9;subst ev;exact⟨rv,⟨V.ref Ö,H',I3,rfl,q3⟩⟩
  |next=>exact False.elim k9
  |brk=>exact False.elim k9
  |cont=>exact False.elim k9
def ZP(M:Mk X.K C f)(F:þ fd ps sp)(hr:dw (k+1) X.A)(hg:Gl X x)(hm:X.mg x=some ý)(hb:ŝ ds)(hd:ba iR ds)(hx:tP CX X E)(ha:PA X (e::es) t) (ju:(x==("__debug__":Str))=false:=by decide) (he:starEach (e::es) X.env=(false,eval e X.env)::starEach es X.env:=by rfl) (df:(backTo pos ô).any (·.1)=false:=by rfl):
  PE X (.Call ž (e::es) [] pos) (Pt C sp iR E t):=by
 show Ô;refine yb (wy I hg hm ?_ ju);refine PySem.W.callWith_K (h₀:=X.base) I.ok.mod.uS M.kp (aL (ha pos pins s σ H _ I h) λus s1 ⟨vs,H1,I1,r,q⟩=>Ãn) he df;exact ZO M F hr hb hd hx I1 r q
end
section
end
structure bC(N P:LS)(sc:Scope):Prop where
 kind:sc.kind=.function
 co:sc.isCoroutine=false
 gen:sc.isGenerator=false
 nd:N.Nodup
 pre:N.take P.length=P
 par:∀x∈P,sc.names.lookup x=some .local∨sc.names.lookup x=some .cell
 ZQ:∀y∈sc.names,y.2≠ .free
theorem ZR{kindOf:Str→Option NameKind}{x:Str}{binds:List (Str×Value)}:∀{m:MG},(∀v,(x,v)∉binds)→bindL kindOf binds m x=m x:=by
 induction binds with
 |nil=>exact @λ_ _=>rfl
 |cons hd0 r ih=>
  obtain⟨n,v⟩:=hd0;intro m h;unfold bindL;rw[ih λw hw=>h w (aN _ hw)];split
  ·have:x≠n:=by rintro rfl;exact h v gu
   simp[this]
  ·rfl
theorem ZS{kindOf:Str→Option NameKind}{x:Str}{binds:List (Str×Value)}:∀{m:MG},(∀v,(x,v)∉binds)→bindC kindOf binds m x=m x:=by
 induction binds with
 |nil=>exact @λ_ _=>rfl
 |cons hd0 r ih=>
  obtain⟨n,v⟩:=hd0;intro m h;unfold bindC;rw[ih λw hw=>h w (aN _ hw)];split
  ·rfl
  ·have:x≠n:=by rintro rfl;exact h v gu
   simp[this]
def ZT{kindOf:Str→Option NameKind}{x:Str}{v:Value}{P:LS}:∀{vs:LV}{i:Nat}{m:MG},P.Nodup→P[i]? =some x→vs[i]? =some v→kindOf x=some .local→
  bindL kindOf (P.zip vs) m x=some v:=by
 induction P with
 |nil=>intro _ _ _ _ h;simp at h
 |cons p P ih=>
  intro vs i m nd h1 h2 hk;cases vs with
  |nil=>simp at h2
  |cons w vs=>
   show bindL kindOf ((p,w)::P.zip vs) m x=_;unfold bindL;cases i with
   |zero=>
    simp at h1 h2;subst h1;subst h2;rw[ZR λv hv=>(j4.mp nd).1 (CH hv).1,af hk];simp
   |succ i=>exact ih (j4.mp nd).2 h1 h2 hk
def ZU{kindOf:Str→Option NameKind}{x:Str}{v:Value}{P:LS}:∀{vs:LV}{i:Nat}{m:MG},P.Nodup→P[i]? =some x→vs[i]? =some v→kindOf x≠some .local→
  bindC kindOf (P.zip vs) m x=some v:=by
 induction P with
 |nil=>intro _ _ _ _ h;simp at h
 |cons p P ih=>
  intro vs i m nd h1 h2 hk;cases vs with
  |nil=>simp at h2
  |cons w vs=>
   show bindC kindOf ((p,w)::P.zip vs) m x=_;unfold bindC;cases i with
   |zero=>
    simp at h1 h2;subst h1;subst h2;rw[ZS λv hv=>(j4.mp nd).1 (CH hv).1,ah hk];simp
   |succ i=>exact ih (j4.mp nd).2 h1 h2 hk
def start(N:LS)(vs:aq):St:=vs.map some++List.replicate (N.length-vs.length) none
def ki(CX:mT)(P:Pg)(w:Wd)(K:FR)(mg:MG)(base:Heap)(N:LS)(cY:Str)(scope:Scope)(f:Addr)(cd:Value)(A:Around)(outer:List Env)(s:Sh)(H:Hp)(E:XK):Cx where
 prog:=P
 w:=w
 K:=K
 mg:=mg
 base:=base
 A:=A.deeper Ŷ
 N:=N
 jb:=s
 wt:=H
 env:=envOfC cY scope s.heap.objs.size f cd
 outer:=outer
 stack:=envOfC cY scope s.heap.objs.size f cd::outer
 ex:=[]
 calm:=true
 fn:=λ_=>true
 pn:=[]
 xe:=λe s'=>wpAny Àh (A.deeper Ŷ) (leaving Ŷ e) (λ_ AB=>CX outer H s E e AB) (λe' AB=>CX outer H s E e' AB) s'
def Pu{sc:Scope}{n:Nat}{x:Str}(h:sc.names.lookup x=some .cell):∃c,(cellsFrom n sc.names []).lookup x=some c:=by
 have q:=PySem.W.cellsFrom_some sc.names n [] (.inl h);exact Gs.mp q
def Pw{CX:mT}{P:Pg}{w:Wd}{K:FR}{mg:MG}{base:Heap}{N ps:LS}{cY:Str}{scope:Scope}{f:Addr}{cd:Value}{A:Around}{outer:List Env}{s s1:Sh}{H:Hp}{E:XK}{us:LV}{vs:aq}(S:bC N ps scope) (hd:A.handled=none) (e0:ŭ H) (hl:vs.length=ps.length) (r:ba vs us)(x:InCallC s s.heap.objs.size (bindL (envOfC cY scope s.heap.objs.size f cd).kindOf ϟ λ_=>none) (cellsFrom Ö scope.names []) (bindC (envOfC cY scope s.heap.objs.size f cd).kindOf ϟ λ_=>none) s1):
  Inv (Ī scope f cd A outer s H E) [] ŕ H s1:=by
 have df:ps.length≤N.length:=by have:=cz List.length S.pre;rw[mv] at this;omega
 obtain⟨h1,tk,rfl,hk⟩:=x.done;have AC:∀b:Addr,b∉(Ī scope f cd A outer s H E).ex:=λb z=>absurd (show b∈([]:LA) from z) Â;refine⟨⟨e0.mod,S.kind,rfl,rfl,bO _,λy z c h1 h2=>?_,λy hy=>?_,λy c _ h=>?_,λ_=>hd,Around.frames_deeper e0.frames,.inr ⟨rfl,rfl⟩,λb z=>absurd z (AC b),e0.bs,e0.qe,λb _ _=>AC b,λb z=>absurd z (AC b),e0.nP,e0.uT⟩,
  rfl,e0.bare,Un.kept hk,⟨_,x.toInCall.ns,λi y v h1 h2 h3=>?_⟩,λy c h=>⟨_,x.cell y c h⟩,e0.ax.fresh (bO _),λy c h=>?_,λp hp=>absurd (show p∈([]:bI) from hp) Â,e0.ax.kept hk,?_⟩
 ·exact name_of_addr x.apart (PySem.mem_of_lookup h1) (PySem.mem_of_lookup h2)
 ·have hy:scope.names.lookup y=some .cell∨scope.names.lookup y=some .free:=hy;rcases hy with hy|hy
  ·exact Pu hy
  ·exact absurd rfl (S.ZQ _ (PySem.mem_of_lookup hy))
 ·exact sY (x.above y c (PySem.mem_of_lookup h))
 ·have hi:i<vs.length:=by
   unfold start at h2;by_cases hi:i<vs.length
   ·exact hi
   ·rw[Oj (by simpa using hi)] at h2;rw[List.getElem?_replicate] at h2;split at h2 <;> cases h2
  have ha:vs[i]? =some v:=by
   unfold start at h2;rw[Gu (by simpa using hi),bX] at h2;cases e:vs[i]? with
   |none=>rw[e] at h2;cases h2
   |some a=>rw[e] at h2;cases h2;rfl
  obtain⟨u,hu,rv⟩:=r.get ha;have hp:ps[i]? =some y:=by
   rw[←S.pre,Xo Ä];exact h1
  have Px:ps.Nodup:=by rw[←S.pre];exact S.nd.sublist (List.take_sublist _ _)
  refine⟨u,rv,?_⟩;rcases S.par y (bY hp) with k|k
  ·exact .inl ⟨k,ZT Px hp hu k⟩
  ·obtain⟨c,e⟩:=Pu (n:=s.heap.objs.size+1) k;refine .inr ⟨.inl k,c,e,?_⟩;have q:=x.cell y c e;rw[ZU Px hp hu (by show scope.names.lookup y≠_;rw[k];decide)] at q;exact q
 ·exact e0.ax.fresh (sY (x.above y c (PySem.mem_of_lookup h)))
 ·unfold start;show _=N.length;rw[mw,aA,List.length_replicate];omega
def HC{CX:mT}{P:Pg}{w:Wd}{K:FR}{mg:MG}{base:Heap}{k:Nat}{f:Addr}{name cY:Str}{W0:Arguments}{gJ:List Stmt}{scope:Scope}{dV kV iO pm aG ct oc:Value}{an od:OA}{mG:AO} {N ps:LS} {sp:Sp} (lk:K.lookup f=some ⟨oc,od,.func (PySem.W.fnOf name cY W0 gJ scope dV kV iO pm an aG ct),mG⟩) (j8:PySem.W.codeIn K aG cY=true) (S:bC N ps scope)(len:∀vs H Q E,sp vs H Q E→vs.length=ps.length)(tQ:∀(A:Around)(outer:List Env)(s:Sh)(H:Hp)(vs:aq)(Q:VK)(E:XK),dw k (A.deeper (envOfC cY scope s.heap.objs.size f aG))→sp vs H Q E→
   ∃t,jI Àc gJ t∧t {nx:=λ_ H'=>Q .aJ H',rt:=Q} ŕ H):
  a8 P w K mg base CX (k+1) f (PySem.W.fnOf name cY W0 gJ scope dV kV iO pm an aG ct) ps sp:=by
 refine⟨len,λA outer s H args us vs Q E hr e0 hb r jd=>?_⟩;have hl:=len _ _ _ _ jd;have KX:K.In s.heap:=e0.mod.uS.keeps λb o e=>(e0.bs b o e).1;have Ob:s.heap.NoLimit:=e0.mod.nolimit.keeps λb o e=>(e0.bs b o e).1;have HE:∀y∈ps.zip us,scope.names.lookup y.1=some .local∨(scope.names.lookup y.1=some .cell∧((cellsFrom Ö scope.names []).lookup y.1).isSome=true):=λ⟨n,v⟩ hy=>by
  rcases S.par n (CH hy).1 with q|q
  ·simp_all
  ·exact .inr ⟨q,PySem.W.cellsFrom_some _ _ _ (.inl q)⟩
 refine codeAny_call_function hr.depth (KX _ _ lk) rfl S.co S.gen rfl (PySem.W.codeRec_of KX j8) (hb _ _ _ _ ?_);refine aoz S.kind HE λenv he s1 x=>?_;subst he;refine⟨Ob.keeps x.toInCall.keep,codeAny_func ?_⟩;obtain⟨t,ht,hq⟩:=tQ A outer s H vs Q E (hr.deeper _) jd;have I:Inv Àc [] ŕ H s1:=Pw S hr.hd e0 hl r x;refine i6 (ht [] s1 ŕ H _ I hq) (λfl s' hs=>?_) λe s' hs=>hs;have fin:∀{σ':St}{H':Hp}{v:V}{u:Value},Inv Àc [] σ' H' s'→RelV v u→Q v H'→CE outer P w H s Q u s':=
  λ{σ' H' v u}J rv q=>⟨v,H',J.os,J.bare,J.base,J.ax,rv,q⟩
 cases fl with
 |ret u=>
  obtain⟨v,σ',H',J,rv,q⟩:=hs;exact fin J rv q
 |next=>
  obtain⟨σ',H',J,q⟩:=hs;exact fin (v:=V.aJ) (u:=Value.none) J rfl q
 |brk=>
  obtain⟨_,_,_,q⟩:=hs;simp_all
 |cont=>
  obtain⟨_,_,_,q⟩:=hs;simp_all
end L2
namespace L2
open PySem PySem.Spec PyProof.Rows
section
variable{X:Cx}{x:Str}{p pos:Pos}{e:Expr}{es:List Expr}{t:TA}{id T:String}{r:aq→Hp→VK→Prop}
def ql(r:aq→Hp→VK→Prop)(t:TA):TE:=λσ H Q=>t σ H λvs H1=>r vs H1 Q
def c6(hc:k8 X ό r)(hg:Gl X x)(hm:X.mg x=none)(hv:bootBuiltins x=some ό)(ha:PA X (e::es) t)(hn:x≠"__name__":=by decide)(ju:(x==("__debug__":Str))=false:=by decide)(he:starEach (e::es) X.env=(false,eval e X.env)::starEach es X.env:=by rfl) (df:(backTo pos ô).any (·.1)=false:=by rfl):PE X (.Call ž (e::es) [] pos) (ql r t):=by
 show Ô;refine yb (Àg hv ?_ hn ju);exact aoA (aL (ha pos pins s σ H _ I h) λus s1 ⟨vs,H1,I1,r1,q1⟩=>hc pins s1 σ H1 vs us Q I1 r1 q1) he df
def wK(hc:k8 X (.type T) r)(hg:Gl X x)(hm:X.mg x=none)(hv:bootBuiltins x=some (.type T))(ha:PA X (e::es) t)(hn:x≠"__name__":=by decide)(ju:(x==("__debug__":Str))=false:=by decide)(he:starEach (e::es) X.env=(false,eval e X.env)::starEach es X.env:=by rfl) (df:(backTo pos ô).any (·.1)=false:=by rfl):PE X (.Call ž (e::es) [] pos) (ql r t):=by
 show Ô;refine yb (Àg hv ?_ hn ju);exact CC (aL (ha pos pins s σ H _ I h) λus s1 ⟨vs,H1,I1,r1,q1⟩=>hc pins s1 σ H1 vs us Q I1 r1 q1) he df
end
end L2
namespace HT
open PySem PyProof.Rows
def lexLt:LI→LI→Bool
 |[],[]=>false
 |[],_::_=>true
 |_::_,[]=>false
 |x::xs,y::ys=>if x=y then lexLt xs ys else decide (x<y)
def tU(x y:Int)(xs ys:LI):lexLt (x::xs) (y::ys)=if x=y then lexLt xs ys else decide (x<y):=rfl
def Py:lexLt [] []=false:=rfl
def Pz(y:Int)(ys:LI):lexLt [] (y::ys)=true:=rfl
def PB(x:Int)(xs:LI):lexLt (x::xs) []=false:=rfl
def PD(A:Around)(s:Sh)(a:Int)(t:Tok)(c:Int)(u:Tok):∃e,SeqAt.EqAt A s (.int a t) (.int c u) e∧(e=true↔a=c):=
 ⟨(a==c),SeqAt.EqAt.int_int a t c u,by simp⟩
def HF(A:Around)(s:Sh)(a:Int)(t:Tok)(c:Int)(u:Tok)(prog:Pg)(w:Wd)(E:VP)(Q:VP)(h:Q (.bool (decide (a<c))) s):
  wpAny Ð A (richCompare .Lt (.int a t) (.int c u)) Q E s:=
 (PyProof.Rows.lt_int h:wpAny Ð A (compareOp .Lt (.int a t) (.int c u)) Q E s)
section
open PySem.SeqAt
open PySem.AutoSeq1 (wpAny_loadPart')
open PySem.MeetsSeq PySem.MeetsSeq2 PySem.MeetsSeq3
def ZV(l b:Addr)(items ig:Array Value)(n n2:Nat)(dd lO:OA)(sl mU:AO)(ns ms:LI)(hi:IntsAre items.toList ns)(hj:IntsAre ig.toList ms):
  Meets (Builtin.«tuple.__lt__» ⟨[.ref l,.ref b],[]⟩)
   (λ_ R s=>s.heap.get? l=some {cls:=.type "tuple",dict:=dd,data:=.seq items n,slots:=sl}∧s.heap.get? b=some {cls:=.type "tuple",dict:=lO,data:=.seq ig n2,slots:=mU}∧
    R (.ok (.ret Ž)) s):=
 .of_wp λprog w A R s h=>by
  obtain⟨hp,g,d,tk,os⟩:=s;obtain⟨hl,hb,h⟩:=h;have f2:=aoC;have z1:items.size=ns.length:=by rw[←hi.length];simp
  have z2:ig.size=ms.length:=by rw[←hj.length];simp
  wp_walk using i7 hl,i7 hb,wpAny_forIn_list _ (λbG b s'=>b.1=none∧s'=⟨hp,g,d,tk,os⟩∧∃(vs ws:LV)(rG lQ:LI),bG=vs.zip ws∧
   IntsAre vs rG∧IntsAre ws lQ∧rG.length+ig.size=lQ.length+items.size∧R (.ok (.ret (.bool (lexLt rG lQ)))) ⟨hp,g,d,tk,os⟩) _
  case turn=>
   rintro⟨y,x⟩ bG b s' ⟨oY,rfl,vs,ws,rG,lQ,hz,yy,tV,cJ,hR⟩;cases yy with
   |nil=>rw[List.zip_nil_left] at hz;cases hz
   |cons a t hvi'=>
    cases tV with
    |nil=>rw[List.zip_nil_right] at hz;cases hz
    |cons c u hwi'=>
     rw[CI] at hz;injection hz with hyx hrest;injection hyx with hy hx;subst hy hx;rw[tU] at hR;simp only[cZ] at cJ;obtain⟨e,he,AD⟩:=PD A.in1 ⟨hp,g,d,tk,os⟩ a t c u;refine aP (he prog w _ _ ?_);cases e with
     |true=>
      rw[af (AD.mp rfl)] at hR
      wp_walk
      exact⟨rfl,rfl,_,_,_,_,hrest,hvi',hwi',by omega,hR⟩
     |false=>
      rw[ah (λq=>absurd (AD.mpr q) dZ)] at hR;have qm:=HF A.in1 ⟨hp,g,d,tk,os⟩ a t c u prog w
      wp_walk using qm
      exact⟨_,rfl,by simpa using hR⟩
  case fin=>
   rintro⟨b1,b2⟩ s' ⟨oY,rfl,vs,ws,rG,lQ,hz,yy,tV,cJ,hR⟩;simp only at oY;subst oY;have hv:lexLt rG lQ=decide (items.size<ig.size):=by
    cases yy with
    |nil=>
     cases tV with
     |nil=>
      simp only[qU] at cJ;rw[Py];exact(fC Ä).symm
     |cons c u hw=>
      simp only[qU,cZ] at cJ;rw[Pz];exact(eF Ä).symm
    |cons a t hv=>
     cases tV with
     |nil=>
      simp only[qU,cZ] at cJ;rw[PB];exact(fC Ä).symm
     |cons c u hw=>
      rw[CI] at hz;cases hz
   rw[hv] at hR
   wp_walk
   exact⟨_,rfl,by simpa [Builtin.Tuple.tupleCompareSizes] using hR⟩
  case h=>
   exact⟨rfl,rfl,items.toList,ig.toList,ns,ms,rfl,hi,hj,by omega,h⟩
end
section
def ZW(hl:IsTup s.heap l items)(hb:IsTup s.heap b ig)(hi:IntsAre items.toList ns)(hj:IntsAre ig.toList ms)(hu:A.units<cLine) (h:Q Ž s):wpAny Ð A (compareOp .Lt Är (.ref b)) Q E s:=by
 obtain⟨⟨cls,dd,data,sl⟩,ho,hc,n,hd⟩:=id hl;obtain⟨⟨PF,lO,data2,mU⟩,AE,iH,n2,fA⟩:=id hb;simp only at hc hd iH fA;subst hc hd iH fA;exact Ol (op:=.Lt) ⟨_,ho,rfl⟩ ⟨_,AE,rfl⟩ PySem.F.slot_tuple_lt PySem.F.entry_tuple_lt (PySem.F.args_tuple_lt_2 _ _) (ZV l b items ig n n2 dd lO sl mU ns ms hi hj)
  ⟨ho,AE,show Value.bool (lexLt ns ms)≠Value.notImplemented∧Q Ž s from⟨(λx=>nomatch x),h⟩⟩ hu
def lR(n d:Nat):Option Int→Nat
 |none=>d
 |some v=>if v<0 then (v+(n:Int)).toNat else min v.toNat n
def PJ(n d:Nat):lR n d none=d:=rfl
def PK(n d k:Nat):lR n d (some (k:Int))=min k n:=by
 rfl
end
end HT
namespace L2
open PySem PySem.Spec PyProof.Rows
abbrev TO:=St→Hp→(Option Int→Hp→Prop)→Prop
def PO(X:Cx)(e:Option Expr)(t:TO):Prop:=
 ∀(pins:bI)(s:Sh)(σ:St)(H:Hp)(Q:Option Int→Hp→Prop),Á H s→t σ H Q→
  wpAny Æ X.A (evalPart e X.env) (λu s'=>∃o H',Á H' s'∧IsPart u o∧Q o H') X.xe s
def PL:TO:=λ_ H Q=>Q none H
def PM(t:TE):TO:=λσ H Q=>t σ H λx H1=>∃i,x=.int i∧Q (some i) H1
theorem intsAre_of{ns:LI}:∀{us:LV},ba Ţ us→IntsAre us ns:=by
 induction ns with
 |nil=>intro us r;rw[lE] at r;cases r;exact .nil
 |cons n ns ih=>
  intro us r;rw[aY] at r;cases r with
  |cons r1 r2=>
   obtain⟨t,e⟩:=r1;subst e;exact .cons n t (ih r2)
section
variable{X:Cx}{e:Expr}{te:TE}{lo hi:Option Expr}{tl th:TO}{pos p2:Pos}
def wL:PO X none PL:=by
 show Ô;rw[evalPart_none];exact c7 ⟨none,H,I,.none,h⟩
def wM(h:ϝ te):PO X (some e) (PM te):=by
 intro pins s σ H Q I hw;rw[evalPart_some];refine aL (h pins s σ H _ I hw) λu s1 ⟨x,H1,I1,r1,q1⟩=>?_;obtain⟨i,rfl,q⟩:=q1;obtain⟨t,rfl⟩:=r1;exact⟨some i,H1,I1,.int i t,q⟩
def PN(X:Cx)(r:V→Option Int→Option Int→Hp→VK→Prop):Prop:=
 ∀(pins:bI)(s:Sh)(σ:St)(H:Hp)(x:V)(v vl vu:Value)(lo hi:Option Int)(sl:Addr)(Q:VK),Á H s→RelV x v→s.heap.IsSliceOf sl vl vu .none→IsPart vl lo→IsPart vu hi→r x lo hi H Q→
  ∃T id,typeLookup (.type T) "__getitem__"=pure (some ό)∧s.TypeIs v T∧wpAny Æ X.A (getItem v (.ref sl)) (ð Q) X.xe s
def PP(r:V→Option Int→Option Int→Hp→VK→Prop)(te:TE)(tl th:TO):TE:=λσ H Q=>te σ H λx H1=>tl σ H1 λl H2=>th σ H2 λu H3=>r x l u H3 Q
def wN(hr:PN X r)(he:ϝ te)(hl:PO X lo tl)(hu:PO X hi th):PE X (.Subscript e (.Slice lo hi none p2) pos) (PP r te tl th):=by
 show Ô;refine Subscript_ (aL (he pins s σ H _ I h) λv s1 ⟨x,H1,I1,r1,q1⟩=>?_);refine wpAny_Slice (aL (hl pins s1 σ H1 _ I1 q1) λvl s2 ⟨l,H2,I2,pl,q2⟩=>aL (hu pins s2 σ H2 _ I2 q2) λvu s3 ⟨u,H3,I3,pu,q3⟩=>?_);rw[evalPart_none];refine c7 ?_;have I4:Á H3 {s3 with heap:=s3.heap.push {cls:=.type "slice",data:=.fields #[vl,vu,.none]}}:=I3.kept (t':=s3.toks) λb ob q=>dh _ q;obtain⟨T,id,hT,ht,hg⟩:=hr pins {s3 with heap:=s3.heap.push {cls:=.type "slice",data:=.fields #[vl,vu,.none]}} σ H3 x v vl vu l u s3.heap.objs.size Q I4 r1 (Heap.IsSliceOf.new ..) pl pu q3;show wpAny Æ X.A (subscriptTail e (.Slice lo hi none p2) v (.ref s3.heap.objs.size)) (ð Q) X.xe {s3 with heap:=s3.heap.push {cls:=.type "slice",data:=.fields #[vl,vu,.none]}};exact tail_any (ops:=[.ref s3.heap.objs.size,v]) ht hT hg Ò
def nX(xs:aq)(lo hi:Option Int):aq:=(xs.drop (HT.lR xs.length 0 lo)).take (HT.lR xs.length xs.length hi-HT.lR xs.length 0 lo)
def ZX(xs:aq)(lo hi:Option Int):(nX xs lo hi).length≤xs.length:=by
 unfold nX;rw[mv,Xq];omega
inductive PQ(K:FR)(x:V)(y:V)(H:Hp)(Q:VK):Prop
 |mk (a b ns ms:_) (_:x=.ref a) (_:y=.ref b) (_:ť a Ţ) (_:ť b (ms.map V.int)) (_:Q (.bl Ϝ) H)
def ZY(hu:X.A.units<cLine):eS X Çf (PQ X.K):=by
 show î;obtain⟨a,b,ns,ms,rfl,rfl,ha,hb,q⟩:=h;cases rx;cases ry;obtain⟨aj,r1,p1,_⟩:=I.tuple ha;obtain⟨mV,r2,p2,_⟩:=I.tuple hb;have i1:IntsAre aj.toArray.toList ns:=intsAre_of r1;have i2:IntsAre mV.toArray.toList ms:=intsAre_of r2;exact HT.ZW p1 p2 i1 i2 hu ⟨.bl Ϝ,H,I,rfl,q⟩
end
end L2
namespace L2
open PySem PySem.Spec PyProof.Rows
def rH(n:Nat)(i:Int):Option Nat:=if 0≤i then (if i<n then some i.toNat else none) else if-(n:Int)≤i then some (i+n).toNat else none
def o4{α:Type}(xs:List α)(i:Int):Option α:=(rH xs.length i).bind λj=>xs[j]?
def ZZ(h:rH n i=some j):seqIndex? i n=some j∧j<n∧ -(n:Int)≤i∧i<n:=by
 unfold rH at h;by_cases h0:0≤i
 ·rw[af h0] at h;by_cases h1:i<n
  ·rw[af h1] at h;have e:i.toNat=j:=aO h;exact⟨by rw[seqIndex_of h0 h1,e],by omega,by omega,h1⟩
  ·simp_all
 ·rw[ah h0] at h;by_cases h1: -(n:Int)≤i
  ·rw[af h1] at h;have e:(i+n).toNat=j:=aO h;exact⟨by rw[seqIndex_neg Ä h1,e],by omega,h1,by omega⟩
  ·simp_all
theorem PR(h:o4 xs i=some v):∃j,seqIndex? i xs.length=some j∧xs[j]? =some v∧j<xs.length∧ -(xs.length:Int)≤i∧i<xs.length:=by
 unfold o4 at h;cases e:rH xs.length i with
 |none=>simp_all
 |some j=>
  rw[e] at h;obtain⟨h1,h2,h3,h4⟩:=ZZ e;simp_all
def fZ{α:Type}{xs:List α}{j:Nat}{v:α}(h:xs[j]? =some v):o4 xs (j:Int)=some v:=by
 have hj:j<xs.length:=(bH.mp h).1;have e:rH xs.length (j:Int)=some j:=by
  unfold rH;simp_all
 unfold o4;rw[e];exact h
def u6(xs:List α)(v:α):o4 (xs++[v]) (-1)=some v:=by
 have hl:(xs++[v]).length=xs.length+1:=by simp
 have e:rH (xs++[v]).length (-1)=some xs.length:=by
  unfold rH;grind
 unfold o4;simp_all
def Z0(b:Expr):Prop:=∀o i,subscripted b false o i=operate [o,i] (getItem o i)
def HG(X:Cx)(r:R2):Prop:=
 ∀(i5 uL:Expr)(pins:bI)(s:Sh)(σ:St)(H:Hp)(x y:V)(v u:Value)(Q:VK),Á H s→RelV x v→RelV y u→r x y H Q→
  subscripted uL false v u=operate [v,u] (getItem v u)→wpAny Æ X.A (subscriptTail i5 uL v u) (ð Q) X.xe s
def HH(X:Cx)(id:String)(r:V→aq→Hp→VK→Prop):Prop:=
 ∀(pins:bI)(s:Sh)(σ:St)(H:Hp)(x:V)(xs:aq)(v:Value)(us:LV)(Q:VK),Á H s→RelV x v→ba xs us→r x xs H Q→
  wpAny Æ X.A (call ό (v::us)) (ð Q) X.xe s
section
variable{X:Cx}{a b:Expr}{ta tb:TE}{pos:Pos}
def cA(hr:HG X r)(ha:Ϩ ta)(hb:PE X b tb)(hs:Z0 b):PE X (.Subscript a b pos) Æn:=by
 show Ô;exact Subscript_ (Hq ha hb I h λv u s2 x y H2 I2 rx ry q=>hr a b pins s2 σ H2 x y v u Q I2 rx ry q (hs _ _))
inductive ia(K:FR)(x:V)(y:V)(H:Hp)(Q:VK):Prop
 |mk (p xs i v:_) (_:x=.ref p) (_:y=.int i) (_:ß p xs) (_:o4 xs i=some v) (_:Q v H)
inductive Z1(K:FR)(x:V)(y:V)(H:Hp)(Q:VK):Prop
 |mk (p xs i v:_) (_:x=.ref p) (_:y=.int i) (_:ť p xs) (_:o4 xs i=some v) (_:Q v H)
def cQ:HG X (ia X.K):=by
 intro i5 uL pins s σ H x y v u Q I rx ry h hs;obtain⟨p,xs,i,z,rfl,rfl,hq,he,q⟩:=h;cases rx;obtain⟨t,rfl⟩:=ry;obtain⟨aj,r,pl,hz⟩:=I.list hq;obtain⟨j,h1,h2,h3,h4,h5⟩:=PR he;obtain⟨w,ew,iS⟩:=r.get h2;have hl:=r.length;have hn:=Dm;have fin:ð Q w s:=⟨z,H,I,iS,q⟩;by_cases h0:0≤i
 ·have hj:i.toNat=j:=by
   rw[seqIndex_of h0 h5] at h1;simp_all
  exact item_listR pl.isList h0 Ä Ç fin hs
 ·have hj:(i+(aj.toArray.size:Int)).toNat=j:=by
   rw[seqIndex_neg Ä h4] at h1;simp_all
  exact subscriptTail_builtinR (x:=w) pl.isList.typeIs slot_list_getitem.lookup
   (wpAny_getItem_list_neg (Q:=λr s'=>r=w∧ð Q r s') pl.isList Ä (by rw[tm] <;> omega) Ä (by rw[hj];simpa using ew) ⟨rfl,fin⟩) hs
def yz:HG X (Z1 X.K):=by
 intro i5 uL pins s σ H x y v u Q I rx ry h hs;obtain⟨p,xs,i,z,rfl,rfl,hq,he,q⟩:=h;cases rx;obtain⟨t,rfl⟩:=ry;obtain⟨aj,r,pl,hz⟩:=I.tuple hq;obtain⟨j,h1,h2,h3,h4,h5⟩:=PR he;obtain⟨w,ew,iS⟩:=r.get h2;have hl:=r.length;have hn:=Dm;have fin:ð Q w s:=⟨z,H,I,iS,q⟩;exact subscriptTail_builtinR (x:=w) pl.typeIs slot_tuple_getitem.lookup
  (getItem_tuple (j:=j) (Q:=λr s'=>r=w∧ð Q r s') pl Ä Ä (by rw[tm,←hl];exact h1) (by simpa using ew) ⟨rfl,fin⟩) hs
def Z2(lo hi:Option Int)(n:Nat):(sliceBounds lo hi none n).1=((HT.lR n 0 lo:Nat):Int)∧(sliceBounds lo hi none n).2.1=((HT.lR n n hi:Nat):Int)∧(sliceBounds lo hi none n).2.2=1:=by
 refine⟨?_,?_,rfl⟩
 ·cases lo with
  |none=>rfl
  |some i=>
   simp only[sliceBounds,HT.lR,Option.getD_none,show(1:Int)>0 by decide,Om];grind
 ·cases hi with
  |none=>rfl
  |some i=>
   simp only[sliceBounds,HT.lR,Option.getD_none,show(1:Int)>0 by decide,Om];grind
def Z3(aj:LV)(lo hi:Option Int):slicePick aj.toArray lo hi none=((aj.drop (HT.lR aj.length 0 lo)).take (HT.lR aj.length aj.length hi-HT.lR aj.length 0 lo)).toArray:=by
 obtain⟨h1,h2,h3⟩:=Z2 lo hi aj.toArray.size;unfold slicePick;rw[h1,h2,h3];simp only[sliceRange_one,pick_run,tm] <;> rfl
inductive PU(K:FR)(x:V)(lo:Option Int)(hi:Option Int)(H:Hp)(Q:VK):Prop
 |mk (a xs:_) (_:x=.ref a) (_:ß a xs) (_:∀p,H p=none→Q Ģ (upd H p (.lst (nX xs lo hi))))
def wO:PN X (PU X.K):=by
 intro pins s σ H x v vl vu lo hi sl Q I rx hs pl pu h;obtain⟨a,xs,rfl,hx,q⟩:=h;cases rx;obtain⟨aj,r,ht,hz⟩:=I.list hx;have cJ:=r.length;refine⟨"list",_,slot_list_getitem.lookup,ht.isList.typeIs,?_⟩;refine wpAny_getItem_list_slice ht.isList hs pl pu .none Â ?_ Ç;rw[Z3,←cJ];refine⟨.ref s.heap.objs.size,_,I.laid (t':=s.toks) (o:=.lst (nX xs lo hi)) (λb ob q=>dh _ q) (bO _) ?_,rfl,q _ ħ⟩;exact⟨gW (ZX xs lo hi) hz,_,0,(r.drop (HT.lR xs.length 0 lo)).take (HT.lR xs.length xs.length hi-HT.lR xs.length 0 lo),g9 _ rfl⟩
def lg:V→Bool
 |.aJ=>true
 |.bl _=>true
 |.int _=>true
 |.str _=>true
 |_=>false
def o5:V→V→Bool
 |.aJ,.aJ=>true
 |.bl a,.bl b=>a==b
 |.bl a,.int b=>(if a then 1 else 0)==b
 |.int a,.bl b=>a==(if b then 1 else 0)
 |.int a,.int b=>a==b
 |.str a,.str b=>a==b
 |_,_=>false
theorem Z4(ry:RelV y u)(rx:RelV x v)(fy:lg y=true)(fx:lg x=true):SeqAt.EqAt A s u v (o5 y x):=by
 cases y with
 |aJ=>
  cases ry;cases x with
  |aJ=>cases rx;exact SeqAt.EqAt.same _
  |bl b=>cases rx;exact SeqAt.EqAt.none_bool b
  |int b=>obtain⟨t,rfl⟩:=rx;exact SeqAt.EqAt.none_int b t
  |str b=>obtain⟨t,rfl⟩:=rx;exact SeqAt.EqAt.none_str b t
  |_=>exact absurd (show false=true from fx) dZ
 |bl a=>
  cases ry;cases x with
  |aJ=>cases rx;exact SeqAt.EqAt.bool_none a
  |bl b=>cases rx;exact SeqAt.EqAt.bool_bool a b
  |int b=>obtain⟨t,rfl⟩:=rx;exact SeqAt.EqAt.bool_int a b t
  |str b=>obtain⟨t,rfl⟩:=rx;exact SeqAt.EqAt.bool_str a b t
  |_=>exact absurd (show false=true from fx) dZ
 |int a=>
  obtain⟨t',rfl⟩:=ry;cases x with
  |aJ=>cases rx;exact SeqAt.EqAt.int_none a t'
  |bl b=>cases rx;exact SeqAt.EqAt.int_bool a t' b
  |int b=>obtain⟨t,rfl⟩:=rx;exact SeqAt.EqAt.int_int a t' b t
  |str b=>obtain⟨t,rfl⟩:=rx;exact SeqAt.EqAt.int_str a t' b t
  |_=>exact absurd (show false=true from fx) dZ
 |str a=>
  obtain⟨t',rfl⟩:=ry;cases x with
  |aJ=>cases rx;exact SeqAt.EqAt.str_none a t'
  |bl b=>cases rx;exact SeqAt.EqAt.str_bool a t' b
  |int b=>obtain⟨t,rfl⟩:=rx;exact SeqAt.EqAt.str_int a t' b t
  |str b=>obtain⟨t,rfl⟩:=rx;exact SeqAt.EqAt.str_str a t' b t
  |_=>exact absurd (show false=true from fx) dZ
 |_=>exact absurd (show false=true from fy) dZ
def lh(x:V)(u:Value):Bool:=match u with
 |.none=>o5 .aJ x
 |.bool b=>o5 (.bl b) x
 |.int i _=>o5 Âr x
 |.str z _=>o5 (.str z) x
 |_=>false
theorem Dq{x y:V}{u:Value}(r:RelV y u)(f:lg y=true):lh x u=o5 y x:=by
 cases y with
 |aJ=>cases r;rfl
 |bl b=>cases r;rfl
 |int i=>obtain⟨t,rfl⟩:=r;rfl
 |str z=>obtain⟨t,rfl⟩:=r;rfl
 |_=>exact absurd (show false=true from f) dZ
theorem Dr{x:V}:∀{xs:aq}{us:LV},ba xs us→xs.all lg=true→us.any Æe=xs.any λy=>o5 y x:=by
 intro xs us h;induction h with
 |nil=>exact λ_=>rfl
 |cons r t ih=>
  intro f;rw[qW,jq] at f;rw[tp,tp,Dq r f.1,ih f.2]
theorem AF{A:Around}{s:Sh}{x:V}{v:Value}(rx:RelV x v)(fx:lg x=true):∀{xs:aq}{us:LV},ba xs us→xs.all lg=true→∀u∈us,SeqAt.EqAt A s u v (lh x u):=by
 intro xs us h;induction h with
 |nil=>intro _ u hu;cases hu
 |cons r t ih=>
  intro f u' hu;rw[qW,jq] at f;rcases bf.mp hu with rfl|hu
  ·rw[Dq r f.1];exact Z4 r rx f.1 fx
  ·exact ih f.2 u' hu
def u7(x:V)(xs:aq):Bool:=xs.any λy=>o5 y x
inductive Ds(K:FR)(neg:Bool)(x:V)(y:V)(H:Hp)(Q:VK):Prop
 |mk (p xs:_) (_:y=.ref p) (_:(ß p xs∨bu K H p xs)) (_:lg x=true) (_:xs.all lg=true) (_:Q (.bl (if neg then !u7 x xs else u7 x xs)) H)
def HI:eS X (compareOp .In) (Ds X.K false):=by
 show î;obtain⟨p,xs,rfl,hq,fx,fs,q⟩:=h;cases ry;rcases hq with hq|hq
 ·obtain⟨aj,r,pl,hz⟩:=I.list hq;refine SeqAt.in_listAt Æe pl.isList Ũ ⟨.bl _,H,I,rfl,?_⟩;rw[show aj.toArray.any Æe=aj.any Æe by simp,Dr r fs];exact q
 ·obtain⟨aj,r,pl,hz⟩:=I.tuple hq;refine SeqAt.in_tupleAt Æe pl Ũ ⟨.bl _,H,I,rfl,?_⟩;rw[show aj.toArray.any Æe=aj.any Æe by simp,Dr r fs];exact q
def Z5:eS X (compareOp .NotIn) (Ds X.K true):=by
 show î;obtain⟨p,xs,rfl,hq,fx,fs,q⟩:=h;cases ry;rcases hq with hq|hq
 ·obtain⟨aj,r,pl,hz⟩:=I.list hq;refine SeqAt.notIn_listAt Æe pl.isList Ũ ⟨.bl _,H,I,rfl,?_⟩;rw[show aj.toArray.any Æe=aj.any Æe by simp,Dr r fs];exact q
 ·obtain⟨aj,r,pl,hz⟩:=I.tuple hq;refine SeqAt.notIn_tupleAt Æe pl Ũ ⟨.bl _,H,I,rfl,?_⟩;rw[show aj.toArray.any Æe=aj.any Æe by simp,Dr r fs];exact q
def f7:k8 X (.builtin "len") (λxs H Q=>∃p ys,xs=[.ref p]∧(Àt p ys∨bu X.K H p ys)∧Q (.int ys.length) H):=by
 intro pins s σ H xs us Q I r h;obtain⟨p,ys,rfl,hq,q⟩:=h;obtain⟨u,rfl,rx⟩:=vals1 r;cases rx;have hn:=Dm;rcases hq with hq|hq
 ·obtain⟨aj,r',pl,hz⟩:=I.list hq;have cJ:=r'.length;exact Calls.call_len_list pl.isList (by grind) ⟨.int ys.length,H,I.tok _,⟨s.toks+1,by simp_all⟩,q⟩
 ·obtain⟨aj,r',pl,hz⟩:=I.tuple hq;have cJ:=r'.length;exact len_tuple pl (by grind) ⟨.int ys.length,H,I.tok _,⟨s.toks+1,by simp_all⟩,q⟩
def Z6:k8 X (.type "list") (λxs H Q=>∃p ys,xs=[.ref p]∧(Àt p ys∨bu X.K H p ys)∧∀l,H l=none→Q Är (Ϛ Âb)):=by
 intro pins s σ H xs us Q I r h;obtain⟨p,ys,rfl,hq,q⟩:=h;obtain⟨u,rfl,rx⟩:=vals1 r;cases rx;have fin:∀(aj:LV),ba ys aj→ys.length≤sizeLine→∀(h':Heap)(c':Nat),(∀b o',s.heap.get? b=some o'→h'.get? b=some o')→
   h'.get? s.heap.objs.size=some {cls:=.type "list",dict:=none,data:=.seq aj.toArray c',slots:= #[]}→ð Q Ķ {s with heap:=h'}:=λaj r' hz h' c' kp e=>
  ⟨.ref s.heap.objs.size,_,I.laid (t':=s.toks) kp (bO _) (show fm X.prog X.w _ h' _ Âb from⟨hz,aj,c',r',e⟩),rfl,q _ ħ⟩
 rcases hq with hq|hq
 ·obtain⟨aj,r',pl,hz⟩:=I.list hq;have cJ:=r'.length;obtain⟨o,ho,hc,n,hd⟩:=pl.isList;exact call_list_seq p Ą ho hc hd (λh' c' kp e=>fin aj r' hz h' c' kp e) Ç
 ·obtain⟨aj,r',pl,hz⟩:=I.tuple hq;have cJ:=r'.length;obtain⟨o,ho,hc,n,hd⟩:=pl;exact call_list_seq p Æz ho hc hd (λh' c' kp e=>fin aj r' hz h' c' kp e) Ç
def PV:k8 X (.type "tuple") (λxs H Q=>∃p ys,xs=[.ref p]∧((Àt p ys∧∀l,H l=none→Q Är (Ϛ Åq))∨(bu X.K H p ys∧Q Ģ H))):=by
 intro pins s σ H xs us Q I r h;obtain⟨p,ys,rfl,h⟩:=h;obtain⟨u,rfl,rx⟩:=vals1 r;cases rx;rcases h with ⟨hq,q⟩|⟨hq,q⟩
 ·obtain⟨aj,r',pl,hz⟩:=I.list hq;have cJ:=r'.length;refine call_tuple_list pl.isList (λh' kp=>?_) Ç;have I1:Á H {s with heap:=h'}:=I.kept (t':=s.toks) kp;have I2:Á (upd H h'.objs.size Åq) {s with heap:=h'.push {cls:=.type "tuple",data:=.seq aj.toArray}}:=
   I1.laid (t':=s.toks) Åe (bO _) (show fm X.prog X.w _ _ _ Åq from⟨hz,aj,r',IsTup.new _ _⟩)
  exact⟨.ref h'.objs.size,_,I2,rfl,q _ Ãj⟩
 ·obtain⟨aj,r',pl,hz⟩:=I.tuple hq;exact call_tuple_same pl ⟨.ref p,H,I,rfl,q⟩
def HJ(K:FR)(T:String)(x:V)(H:Hp):Prop:=match x with
 |.str _=>T="str"
 |.int _=>T="int"
 |.ref p=>(T="list"∧∃xs,ß p xs)∨(T="tuple"∧∃o,K.lookup p=some o∧o.cls=.type "tuple"∧o.dict=none)∨
   (T="dict"∧((∃kvs,H p=some č)∨∃kvs,H p=some Âu))∨(T="set"∧∃S n,H p=some (.set S n))
 |_=>False
def PX(I:Á H s)(r:RelV x v)(ty:HJ X.K T x H):
  s.TypeIs v T∧∀a,v=.ref a→∃ob,s.heap.get? a=some ob∧ob.dict=none:=by
 cases x with
 |str z=>
  obtain⟨t,rfl⟩:=r;cases (show T="str" from ty);exact⟨typeIs_str s z t,λ_ e=>nomatch e⟩
 |int i=>
  obtain⟨t,rfl⟩:=r;cases (show T="int" from ty);exact⟨typeIs_int s i t,λ_ e=>nomatch e⟩
 |ref p=>
  cases r;rcases ty with ⟨rfl,xs,hq⟩|⟨rfl,o,hk,hc,hd⟩|⟨rfl,hk⟩|⟨rfl,S,n,hk⟩
  ·obtain⟨aj,_,pl,_⟩:=I.list hq;refine⟨pl.isList.typeIs,λa e=>?_⟩;cases e;obtain⟨o,n,e,c,hd,_⟩:=pl;simp_all
  ·refine⟨⟨o,I.fW p o hk,hc⟩,λa e=>?_⟩;cases e;exact⟨o,I.fW _ o hk,hd⟩
  ·have z:∃o,s.heap.get? p=some o∧o.ExactDict:=by
    rcases hk with ⟨kvs,hk⟩|⟨kvs,hk⟩
    ·obtain⟨_,_,_,_,o,_,_,e,ex,_⟩:=I.ax p _ hk;simp_all
    ·obtain⟨_,_,_,_,o,_,_,e,ex,_⟩:=I.ax p _ hk;simp_all
   obtain⟨o,e,ex⟩:=z;refine⟨⟨o,e,ex.1⟩,λa e2=>?_⟩;cases e2;exact⟨o,e,ex.2.1⟩
  ·obtain⟨o,_,_,_,e,ex,_⟩:=I.ax p _ hk;refine⟨⟨o,e,ex.1⟩,λa e2=>?_⟩;cases e2;exact⟨o,e,ex.2.1⟩
 |_=>exact False.elim ty
def Z7(K:FR)(T:String)(r:V→aq→Hp→VK→Prop)(to:TE):TE:=λσ H Q=>to σ H λx H1=>HJ K T x H1∧r x [] H1 Q
def PY(K:FR)(T:String)(r:V→aq→Hp→VK→Prop)(to:TE)(t:TA):TE:=λσ H Q=>to σ H λx H1=>HJ K T x H1∧t σ H1 λxs H2=>r x xs H2 Q
variable{o e:Expr}{es:List Expr}{to:TE}{t:TA}{name:Str}{iP fG:Pos}{T id:String}{r:V→aq→Hp→VK→Prop}
def PZ(pa:PlainAttrs T)(slot:Slot T name id)(rJ:typeOf ό=pure (.type "method_descriptor"))(hm:HH X id r)(ho:PE X o to)(tu:attributeBase o name X.env Äd=eval o X.env:=by rfl) (wQ:(iP.endLine==fG.line)=true:=by rfl):PE X (.Call (.Attribute o name iP) [] [] fG) (Z7 X.K T r to):=by
 show Ô;refine wpAny_Call_method0_late tu wQ (aL (ho pins s σ H _ I h) λv s1 ⟨x,H1,I1,r1,ty,q1⟩=>?_);obtain⟨h1,h2⟩:=PX I1 r1 ty;exact⟨T,id,pa,slot,rJ,h1,h2,Gv rfl (PySem.evalArgs_none (hm pins s1 σ H1 x [] v [] Q I1 r1 .nil q1))⟩
def rK(pa:PlainAttrs T)(slot:Slot T name id)(rJ:typeOf ό=pure (.type "method_descriptor"))(hm:HH X id r)(ho:PE X o to)(ha:PA X (e::es) t)(tu:attributeBase o name X.env Äd=eval o X.env:=by rfl)(yA:((backTo fG (starEach (e::es) X.env)).all (λx=>!x.1)&&(backToKw fG ϲ).all (λx=>x.1.isSome)
   &&decide ((e::es).length+([]:List Keyword).length+(if ([]:List Keyword).isEmpty then 0 else 1)<30))=true:=by rfl)
  (wQ:(iP.endLine==fG.line)=true:=by rfl) (hs:starEach (e::es) X.env=(false,eval e X.env)::starEach es X.env:=by rfl) (apf:(backTo fG ô).any (·.1)=false:=by rfl):
  PE X (.Call (.Attribute o name iP) (e::es) [] fG) (PY X.K T r to t):=by
 show Ô;refine wpAny_Call_method_late tu yA wQ rfl (aL (ho pins s σ H _ I h) λv s1 ⟨x,H1,I1,r1,ty,q1⟩=>?_);obtain⟨h1,h2⟩:=PX I1 r1 ty;refine⟨T,id,pa,slot,rJ,h1,h2,?_⟩;have hA:=ha fG pins s1 σ H1 _ I1 q1;rw[hs] at hA⊢;refine Gv (by assumption) (On ?_);exact aL hA λus s2 ⟨vs,H2,I2,r2,q2⟩=>hm pins s2 σ H2 x vs v us Q I2 r1 r2 q2
end
end L2
namespace L2
open PySem PySem.Spec PyProof.Rows
def HK(X:Cx)(id:String)(r:V→aq→Hp→VK→Prop):Prop:=
 ∀(pins:bI)(s:Sh)(σ:St)(H:Hp)(x:V)(xs:aq)(v:Value)(us:LV)(Q:VK),Á H s→RelV x v→ba xs us→r x xs H Q→
  wpAny Æ X.A (call ό (v::us)) (ð Q) X.xe s
theorem ba.one:∀{x:V}{us:LV},ba [x] us→∃u,us=[u]∧RelV x u:=by
 intro x us h;cases h with
 |cons r t=>cases t;exact⟨_,rfl,r⟩
def ba.zero:∀{us:LV},ba [] us→us=[]:=by
 intro us h;cases h;rfl
theorem ba.dropLast(h:ba xs us):ba xs.dropLast us.dropLast:=by
 induction h with
 |nil=>exact .nil
 |cons r t ih=>
  cases t with
  |nil=>exact .nil
  |cons q t'=>exact .cons r ih
def Z8(l:List α):l.eraseIdx (l.length-1)=l.dropLast:=by
 simp
section
variable{X:Cx}{pins:bI}{σ:St}{H:Hp}{s:Sh}{l b:Addr}{xs ys zs:aq}
def Inv.HL{aj its':LV}{n:Nat}{f:Array Value→Array Value}{t':Nat}(I:Á H s)(hH:H l=some ϱ)(e:s.heap.get? l=some {cls:=.type "list",data:=.seq aj.toArray n}) (hf:f aj.toArray=its'.toArray) (hv:ba ys its') (hz:ys.length≤sizeLine):
  Inv X pins σ (Ϛ Âb) {s with heap:=s.heap.update l (Obj.mapSeq f),toks:=t'}:=by
 have q:=PySem.IsL.update e f;rw[hf] at q;refine I.write (x:=l) (e:=l) (by rw[hH];exact trivial) Ą (λb' u hb hu=>(z5 s.heap (Obj.mapSeq f) (dJ hb)).trans hu) ⟨_,q⟩ ?_;exact⟨hz,its',_,hv,q⟩
def Inv.Z9{aj:LV}{t':Nat}(I:Á H s)(hv:ba ys aj)(hz:ys.length≤sizeLine):
  Inv X pins σ (ě Âb) {s with heap:=s.heap.push {cls:=.type "list",data:=.seq aj.toArray},toks:=t'}:=
 I.laid (λ_ _ q=>dh _ q) (bO _) ⟨hz,aj,0,hv,g9 _ rfl⟩
def Inv.fresh(I:Á H s):H s.heap.objs.size=none:=I.ax.fresh (bO _)
def Inv.yB(I:Á H s)(hH:H l=some ϱ):xs.length≤sizeLine∧∃(aj:LV)(n:Nat),ba xs aj∧xs.length=aj.length∧s.heap.get? l=some {cls:=.type "list",data:=.seq aj.toArray n}:=by
 obtain⟨z,aj,n,r,e⟩:=I.ax l _ hH;exact⟨z,aj,n,r,r.length,e⟩
def aaa{n:Nat}(h:n≤sizeLine):Builtin.List.listTooLong n=false:=by
 unfold Builtin.List.listTooLong;simp_all
end
section
inductive aab(x:V)(vs:aq)(H:Hp)(Q:VK):Prop
 |mk (l xs y:_) (_:x=.ref l) (_:vs=[y]) (_:H l=some ϱ) (_:xs.length<sizeLine) (_:Q .aJ (Ϛ (.lst (xs++[y]))))
def yC:HK X "list.append" aab:=by
 intro pins s σ H x vs v us Q I rx rv h;obtain⟨l,xs,y,rfl,rfl,hH,hz,q⟩:=h;cases rx;obtain⟨u,rfl,ru⟩:=rv.one;obtain⟨z,aj,n,r,hl,e⟩:=I.yB hH;refine Gw F.slot_list_append ⟨_,e,rfl⟩ F.entry_list_append (F.args_list_append_2 _ _) (PySem.list_append l aj.toArray n u Ç) ⟨e,?_⟩;refine⟨.aJ,_,I.HL (its':=aj++[u]) hH e Â (r.append (.cons ru .nil)) ?_,rfl,q⟩;grind
inductive aac(x:V)(vs:aq)(H:Hp)(Q:VK):Prop
 |mk (l b xs zs:_) (_:x=.ref l) (_:vs=[.ref b]) (_:H l=some ϱ) (_:H b=some (.lst zs)) (_:xs.length+zs.length≤sizeLine) (_:Q .aJ (Ϛ (.lst (xs++zs))))
def P0:HK X "list.extend" aac:=by
 intro pins s σ H x vs v us Q I rx rv h;obtain⟨l,b,xs,zs,rfl,rfl,hH,hB,hz,q⟩:=h;cases rx;obtain⟨u,rfl,ru⟩:=rv.one;cases ru;obtain⟨z,aj,n,r,hl,e⟩:=I.yB hH;obtain⟨z2,mV,n2,r2,je,e2⟩:=I.yB hB;have hsz:aj.toArray.size+mV.toArray.size≤sizeLine:=by rw[tm,tm];omega
 have aad:¬(!aj.toArray.isEmpty&&Builtin.List.listTooLong (aj.toArray.size+mV.toArray.size))=true:=by
  rw[aaa hsz,yc];simp
 refine Gw F.slot_list_extend ⟨_,e,rfl⟩ F.entry_list_extend (F.args_list_extend_2 _ _)
  (AutoSeq1.list_extend_list_list_0 l aj.toArray n b mV.toArray n2 aad (by rw[tm];omega) Ä) ⟨e,e2,?_⟩
 refine⟨.aJ,_,I.HL (its':=aj++mV) hH e Â (r.append r2) ?_,rfl,q⟩;simp_all
inductive aae(x:V)(vs:aq)(H:Hp)(Q:VK):Prop
 |mk (l xs y:_) (_:x=.ref l) (_:vs=[]) (_:H l=some ϱ) (_:xs[xs.length-1]? =some y) (_:Q y (Ϛ (.lst xs.dropLast)))
def P1:HK X "list.pop" aae:=by
 intro pins s σ H x vs v us Q I rx rv h;obtain⟨l,xs,y,rfl,rfl,hH,hy,q⟩:=h;cases rx;have hus:=rv.zero;subst hus;obtain⟨z,aj,n,r,hl,e⟩:=I.yB hH;obtain⟨u,hu,ru⟩:=r.get hy;have AG:aj.toArray[aj.toArray.size-1]? =some u:=by
  show aj.toArray[aj.length-1]? =some u;rw[←Xr,←hl];exact hu
 refine Gw F.slot_list_pop ⟨_,e,rfl⟩ F.entry_list_pop (F.args_list_pop_1 _) (MeetsSeq.list_pop_last l aj.toArray n u AG (by rw[tm];omega)) ⟨e,?_⟩;refine⟨y,_,I.HL (its':=aj.dropLast) hH e ?_ r.dropLast ?_,ru,q⟩
 ·show aj.toArray.eraseIdxIfInBounds (aj.toArray.size-1)=aj.dropLast.toArray;rw[tm,List.eraseIdxIfInBounds_toArray,Z8]
 ·rw[Xs];omega
inductive P2(x:V)(y:V)(H:Hp)(Q:VK):Prop
 |mk (l b xs zs:_) (_:x=.ref l) (_:y=.ref b) (_:H l=some ϱ) (_:H b=some (.lst zs)) (_:xs.length+zs.length≤sizeLine) (_:∀p,H p=none→Q Ģ (upd H p (.lst (xs++zs))))
def aag:eS X (binaryOp .Add) P2:=by
 show î;obtain⟨l,b,xs,zs,rfl,rfl,hH,hB,hz,q⟩:=h;cases rx;cases ry;obtain⟨z,aj,n,r,hl,e⟩:=I.yB hH;obtain⟨z2,mV,n2,r2,je,e2⟩:=I.yB hB;refine PySem.P.add_list e e2 ?_ Ç;have ea:aj.toArray++mV.toArray=(aj++mV).toArray:=by simp
 rw[ea];exact⟨.ref _,_,I.Z9 (t':=s.toks) (r.append r2) Ç,rfl,q _ I.fresh⟩
end
section
end
section
end
end L2
namespace L2
open PySem PySem.Spec PyProof.Rows
theorem ba.ints{ns:LI}:∀{us:LV},ba Ţ us→IntsAre us ns:=by
 induction ns with
 |nil=>
  intro us h;rw[lE] at h;cases h;exact IntsAre.nil
 |cons n ns ih=>
  intro us h;rw[aY] at h;cases h with
  |cons r t=>
   obtain⟨k,rfl⟩:=r;exact IntsAre.cons n k (ih t)
theorem ba.P3{bs:List Bool}:∀{us:LV},ba (bs.map V.bl) us→us=bs.map Value.bool:=by
 induction bs with
 |nil=>
  intro us h;rw[lE] at h;cases h;rfl
 |cons b bs ih=>
  intro us h;rw[aY] at h;cases h with
  |cons r t=>
   cases r;rw[ih t,aY]
theorem ba.Dt{a:Addr}{us:LV}(r:ba [V.ref a] us):us=[Value.ref a]:=by
 cases r with
 |cons r t=>
  cases t;cases r;rfl
section
def aah(hh:A.handled=none)(hl:s.heap.IsList l aj.toArray)(hi:IntsAre aj ns)(h:∀h' tk t',(∀b o,s.heap.get? b=some o→h'.get? b=some o)→Q (.int ns.sum t') {s with heap:=h',toks:=tk}):wpAny Ð A (call (.builtin "sum") [.ref l]) Q E s:=by
 obtain⟨xs,e⟩:=hi.allInts.items;have hn:numsOf (intItems xs).toList=ns:=by rw[←e];exact hi.numsOf
 rw[nums_intItems] at hn;rw[e] at hl;refine PySem.sum_intListG hh hl λh' tk t' hk=>?_;have:=h h' tk t' hk;rw[preSum_eq,Gx Â,hn];exact this
def aai(hh:A.handled=none)(hl:s.heap.IsList l aj.toArray)(hi:IntsAre aj ns)(aQ:0<ns.length)(h:∀h' tk M t',(∀b o,s.heap.get? b=some o→h'.get? b=some o)→M∈ns→(∀a,a∈ns→M≤a)→Q (.int M t') {s with heap:=h',toks:=tk}):wpAny Ð A (call (.builtin "min") [.ref l]) Q E s:=by
 obtain⟨xs,e⟩:=hi.allInts.items;have hn:numsOf (intItems xs).toList=ns:=by rw[←e];exact hi.numsOf
 rw[nums_intItems] at hn;subst hn;rw[e] at hl;have hsz:0<xs.size:=by simpa using aQ
 refine PySem.min_intList hh hl hsz λv h' tk hv hk=>?_;obtain⟨t,rfl⟩:=intItems_at hv;obtain⟨h1,h2⟩:=argBest_lt (numAt xs) (xs.size-1);refine h h' tk _ t hk ?_ λa ha=>?_
 ·rw[numAt_eq];exact PySem.getD_mem (by rw[aA,we];omega)
 ·obtain⟨j,hj,rfl⟩:=mem_getD ha;rw[aA,we] at hj;rw[←numAt_eq];exact h2 j Ä
end
section
inductive aaj(K:FR)(vs:aq)(H:Hp)(Q:VK):Prop
 |mk (a:Addr) (ns:LI) (_:vs=[V.ref a]) (_:ß a Ţ) (_:Q (.int ns.sum) H)
def aak(K:FR):aq→Hp→VK→Prop:=λvs H Q=>∃(a:Addr)(ns:LI),vs=[V.ref a]∧ß a Ţ∧0<ns.length∧∀m,m∈ns→(∀y,y∈ns→m≤y)→Q (.int m) H
def P4(hc:X.calm=true):k8 X (.builtin "sum") (aaj X.K):=by
 intro pins s σ H vs us Q I r h;obtain⟨a,ns,rfl,hs,q⟩:=h;obtain⟨aj,rv,hl,_⟩:=I.list hs;rw[ba.Dt r];exact aah ă hl.isList rv.ints λh' tk t' hk=>⟨.int _,H,I.kept hk,⟨_,rfl⟩,q⟩
def P5(hc:X.calm=true):k8 X (.builtin "min") (aak X.K):=by
 intro pins s σ H vs us Q I r h;obtain⟨a,ns,rfl,hs,aQ,q⟩:=h;obtain⟨aj,rv,hl,_⟩:=I.list hs;rw[ba.Dt r];exact aai ă hl.isList rv.ints aQ λh' tk m t' hk h1 h2=>⟨.int _,H,I.kept hk,⟨_,rfl⟩,q m h1 h2⟩
end
section
inductive P6(K:FR)(x:V)(xs:aq)(H:Hp)(Q:VK):Prop
 |mk (a:Addr) (ys:aq) (y:V) (j:Nat) (z:V) (_:x=V.ref a) (_:xs=[y]) (_:ß a ys) (_:lg y=true) (_:ys.all lg=true) (_:ys[j]? =some z) (_:o5 z y=true) (_:(∀(m:Nat)(z':V),m<j→ys[m]? =some z'→o5 z' y=false)) (_:Q (.int (j:Nat)) H)
def P7{ys:aq}(f:ys.all lg=true){j:Nat}{z:V}(h:ys[j]? =some z):lg z=true:=kZ.mp f z (bY h)
def P8:HH X "list.index" (P6 X.K):=by
 intro pins s σ H x xs v us Q I rx rxs h;obtain⟨a,ys,y,j,z,rfl,rfl,hs,fy,HM,hz,hzj,AH,q⟩:=h;cases rx;cases rxs with
 |cons ry rt=>
  rename_i uy ut;cases rt;obtain⟨aj,rv,⟨⟨cls,dd,data,sl⟩,n,ho,hc,hdn,hd⟩,cJ⟩:=I.list hs;simp only at hc hd;subst hc hd;obtain⟨u,hu,ru⟩:=rv.get hz;obtain⟨u9,hje⟩:=bH.mp hu;have HN:=rv.length;have hj:j<aj.toArray.size:=by simpa using u9
  have AI:=wc;refine Gw PySem.F.slot_list_index ⟨_,ho,rfl⟩ PySem.F.entry_list_index (PySem.F.args_list_index_2 _ _)
   (SeqAt.list_indexAt a aj.toArray n dd sl uy (lh y) j hj Ä ?_ ?_) ⟨ho,λu' hu'=>AF ry fy rv HM u' (by simpa using hu'),?_⟩
  ·have e1:aj.toArray[j]=u:=by simpa using hje
   rw[e1,Dq ru (P7 HM hz)];exact hzj
  ·intro m hm hmj;have AJ:m<aj.length:=by simpa using hm
   have hmy:m<ys.length:=by omega
   have AG:ys[m]? =some ys[m]:=dm hmy;obtain⟨u2,HP,HQ⟩:=rv.get AG;obtain⟨_,hme⟩:=bH.mp HP;have e1:aj.toArray[m]=u2:=by simpa using hme
   rw[e1,Dq HQ (P7 HM AG)];exact AH m _ hmj AG
  ·exact⟨.int (j:Nat),H,I.tok _,⟨_,rfl⟩,q⟩
end
section
end
def P9{prog:Pg}{w:Wd}{A:Around}{E:VP}{s:Sh}{l:Addr}{items:Array Value}{Q:VP}(hl:s.heap.IsList l items)(h:∀s₂:Sh,s₂={s with heap:=s.heap.push {cls:=.type "list_iterator",data:=.fields #[.ref l,.int 0 0]}}→
   (s₂.heap.IsListIter s.heap.objs.size l 0∧s₂.heap.IsList l items)→l≠s.heap.objs.size→Q Ķ s₂):wpAny Ð A (pyIter Är) Q E s:=by
 have bJ:l<s.heap.objs.size:=by obtain⟨_,e,_⟩:=hl;exact di e
 exact Xj hl (h _ rfl ⟨⟨_,g9 _ rfl,rfl,rfl⟩,hl.push _⟩ (fU bJ))
def Qa{prog:Pg}{w:Wd}{A:Around}{bs:List Bool}{aj:LV}(e:aj=bs.map Value.bool):
  TruthOf prog w A (λi v=>aj.toArray[i]? =some v) Âg:=λi v s Q E hv hq=>by
 have yu:aj[i]? =some v:=by simpa using hv
 rw[e,bX] at yu;obtain⟨b,hb,rfl⟩:=x9.mp yu;have hg:bs.getD i false=b:=by rw[iQ,hb] <;> rfl
 have k9:Q (bs.getD i false) s:=hq;rw[hg] at k9;exact sZ k9
theorem any_range:∀bs:List Bool,(List.range bs.length).any Âg=bs.any id:=by
 intro bs;induction bs with
 |nil=>exact rfl
 |cons b bs ih=>
  rw[cZ,CJ,tp,Oo,tp,←ih]
  all_goals rfl
theorem all_range:∀bs:List Bool,(List.range bs.length).all Âg=bs.all id:=by
 intro bs;induction bs with
 |nil=>exact rfl
 |cons b bs ih=>
  rw[cZ,CJ,qW,qX,qW,←ih]
  all_goals rfl
section
inductive aas(K:FR)(vs:aq)(H:Hp)(Q:VK):Prop
 |mk (a:Addr) (bs:List Bool) (_:vs=[V.ref a]) (_:ß a (bs.map V.bl)) (_:Q (.bl (bs.any id)) H)
inductive aat(K:FR)(vs:aq)(H:Hp)(Q:VK):Prop
 |mk (a:Addr) (bs:List Bool) (_:vs=[V.ref a]) (_:ß a (bs.map V.bl)) (_:Q (.bl (bs.all id)) H)
def Qb(hc:X.calm=true):k8 X (.builtin "any") (aas X.K):=by
 intro pins s σ H vs us Q I r h;obtain⟨a,bs,rfl,hs,q⟩:=h;obtain⟨aj,rv,hl,_⟩:=I.list hs;rw[ba.Dt r];have hb:=rv.P3;refine call_any_walk (P9 hl.isList λs₂ e2 st aQ=>?_);subst e2;refine⟨_,_,_,_,_,_,_,rfl,Walks.list (A:=X.A.in1) ă _ a aQ aj.toArray,st,Qa hb,λh' tk hk=>?_⟩;refine⟨.bl _,H,I.kept λb o eo=>hk b o (λjf=>?_) (dh _ eo),?_,q⟩
 ·rcases bf.mp jf with e1|jf
  ·exact absurd (e1▸ di eo) (qV _)
  ·simp_all
 ·show Value.bool _=Value.bool _;rw[←any_range,hb,tm,aA]
def va(hc:X.calm=true):k8 X (.builtin "all") (aat X.K):=by
 intro pins s σ H vs us Q I r h;obtain⟨a,bs,rfl,hs,q⟩:=h;obtain⟨aj,rv,hl,_⟩:=I.list hs;rw[ba.Dt r];have hb:=rv.P3;refine call_all_walk (P9 hl.isList λs₂ e2 st aQ=>?_);subst e2;refine⟨_,_,_,_,_,_,_,rfl,Walks.list (A:=X.A.in1) ă _ a aQ aj.toArray,st,Qa hb,λh' tk hk=>?_⟩;refine⟨.bl _,H,I.kept λb o eo=>hk b o (λjf=>?_) (dh _ eo),?_,q⟩
 ·rcases bf.mp jf with e1|jf
  ·exact absurd (e1▸ di eo) (qV _)
  ·simp_all
 ·show Value.bool _=Value.bool _;rw[←all_range,hb,tm,aA]
end
mutual
inductive Dp(K:FR)(H:Hp):V→PyData→Prop
 |aJ:Dp K H .aJ .none
 |bl (b:Bool):Dp K H (.bl b) (.bool b)
 |int (i:Int):Dp K H Âr Âr
 |str (x:Str):Dp K H Æw Æw
 |lst {a:Addr} {xs:aq} {ds:List PyData}:ß a xs→iT K H xs ds→Dp K H Ě (.list ds)
 |tup {a:Addr} {xs:aq} {ds:List PyData}:ť a xs→iT K H xs ds→Dp K H Ě (.tuple ds)
inductive iT(K:FR)(H:Hp):aq→List PyData→Prop
 |nil:iT K H [] []
 |cons {v:V} {vs:aq} {d:PyData} {ds:List PyData}:Dp K H v d→iT K H vs ds→iT K H (v::vs) (d::ds)
end
section
variable{X:Cx}{pins:bI}{σ:St}{H:Hp}{s:Sh}
def Dp.reads(I:Á H s)(d:PyData)(v:V)(u:Value)(h:Dp X.K H v d):RelV v u→∃as,Reads s.heap u d as:=
 Dp.rec (motive_1:=λv d _=>∀u,RelV v u→∃as,Reads s.heap u d as) (motive_2:=λvs ds _=>∀us,ba vs us→∃as,ReadsAll s.heap us ds as)
  (λu r=>by cases r;exact⟨_,Reads.none⟩) (λb u r=>by cases r;exact⟨_,Reads.bool b⟩) (λi u r=>by obtain⟨t,rfl⟩:=r;exact⟨_,Reads.int i t⟩) (λx u r=>by obtain⟨t,rfl⟩:=r;exact⟨_,Reads.str x t⟩)
  (λhs _ ih u r=>by
   cases r;obtain⟨aj,rv,⟨o,n,ho,hc,_,hd⟩,_⟩:=I.list hs;obtain⟨as,hr⟩:=ih aj rv;exact⟨_,Reads.list ho hc hd hr⟩)
  (λhs _ ih u r=>by
   cases r;obtain⟨aj,rv,⟨o,ho,hc,n,hd⟩,_⟩:=I.tuple hs;obtain⟨as,hr⟩:=ih aj rv;exact⟨_,Reads.tuple ho hc hd hr⟩)
  (λus r=>by cases r;exact⟨_,ReadsAll.nil⟩)
  (λ_ _ i1 i2 us r=>by
   cases r with
   |cons r1 r2=>
    obtain⟨as,q1⟩:=i1 _ r1;obtain⟨bs,q2⟩:=i2 _ r2;exact⟨_,ReadsAll.cons q1 q2⟩) h u
end
section
def aau(K:FR):R2:=λx y H Q=>∃d e,Dp K H x d∧Dp K H y e∧SeqAt.shaped d=true∧SeqAt.shaped e=true∧Q (.bl (PyData.eqv d e)) H
def aav(K:FR):R2:=λx y H Q=>∃d e,Dp K H x d∧Dp K H y e∧SeqAt.shaped d=true∧SeqAt.shaped e=true∧Q (.bl (!PyData.eqv d e)) H
def Qc(hu:X.A.units+64<cLine):eS X Ád (aau X.K):=by
 show î;obtain⟨d,e,hd,he,sd,se,q⟩:=h;obtain⟨as,r1⟩:=Dp.reads I d x v hd rx;obtain⟨bs,r2⟩:=Dp.reads I e y u he ry;exact SeqAt.compareEq_shaped r1 r2 sd se hu ⟨.bl _,H,I,rfl,q⟩
def HR(hu:X.A.units+64<cLine):eS X Ám (aav X.K):=by
 show î;obtain⟨d,e,hd,he,sd,se,q⟩:=h;obtain⟨as,r1⟩:=Dp.reads I d x v hd rx;obtain⟨bs,r2⟩:=Dp.reads I e y u he ry;exact SeqAt.compareNe_shaped r1 r2 sd se hu ⟨.bl _,H,I,rfl,q⟩
end
end L2
namespace L2
open PySem PySem.Spec PyProof.Rows
abbrev Qe(h:Heap)(c:Addr)(v:Option Value):Prop:=h.IsCell c v
def aaw(scope sc:Scope):Scope:=
 {scope with names:=scope.names.map λ(n,k)=>if (k== .free&&sc.kind== .function&&sc.names.lookup n==some .cell) then (n,.cell) else (n,k)}
def iU(cells:fk):List (Str×NameKind)→fk→fk
 |[],acc=>acc
 |(n,k)::r,acc=>if k== .free then iU cells r ((n,(cells.lookup n).getD 0)::acc) else iU cells r acc
def aax(env:Env)(f:Str×NameKind→fk→Sem (ForInStep fk))(hf:∀n k c,f (n,k) c=if k== .free then (do let a ←cellOf env n;pure (.yield ((n,a)::c))) else pure (.yield c)):
  ∀(names:List (Str×NameKind))(acc:fk),(∀y∈names,y.2=.free→∃c,env.cells.lookup y.1=some c)→forIn names acc f=pure (iU env.cells names acc):=by
 intro names;induction names with
 |nil=>
  intro acc _;rw[List.forIn_nil];rfl
 |cons hd0 r ih=>
  obtain⟨n,k⟩:=hd0;intro acc h;rw[List.forIn_cons,hf];have ih:=λacc=>ih acc λy hy=>h y (aN _ hy);unfold iU;by_cases hk:(k==NameKind.free)=true
  ·rw[af hk,af hk];obtain⟨c,hc⟩:=h (n,k) gu (by simpa using hk);have e:cellOf env n=pure c:=by unfold cellOf;rw[hc]
   rw[e];have e2:(env.cells.lookup n).getD 0=c:=by rw[hc];rfl
   rw[e2];exact ih _
  ·rw[ah hk,ah hk];exact ih _
def aay(h:∀y∈scope.names,y.2=.free→∃c,env.cells.lookup y.1=some c):closureFor scope env=pure (iU env.cells scope.names []):=by
 simp only[closureFor];rw[aax env _ (λn k c=>rfl) scope.names [] h];rfl
theorem mem_lookup{α:Type}{l:List (Str×α)}:∀{n:Str}{c:α},(n,c)∈l→∃c',l.lookup n=some c':=by
 induction l with
 |nil=>intro n c h;cases h
 |cons p r ih=>
  intro n c h;obtain⟨k,v⟩:=p;rw[wj];cases hb:n==k with
  |true=>exact⟨_,rfl⟩
  |false=>
   rcases bf.mp h with e|h
   ·cases e;simp at hb
   ·exact ih h
theorem Qg{cells:fk}{names:List (Str×NameKind)}:∀{acc:fk}{n:Str}{c:Addr},(n,c)∈iU cells names acc→(n,c)∈acc∨((n,.free)∈names∧c=(cells.lookup n).getD 0):=by
 induction names with
 |nil=>exact @λ_ _ _ h=>.inl h
 |cons hd0 r ih=>
  obtain⟨m,k⟩:=hd0;intro acc n c h;unfold iU at h;split at h
  ·rename_i hk;have hk:k=.free:=by simpa using hk
   rcases ih h with h|⟨h1,h2⟩
   ·rcases bf.mp h with e|h
    ·cases e;exact .inr ⟨hk▸ gu,rfl⟩
    ·exact .inl h
   ·exact .inr ⟨aN _ h1,h2⟩
  ·rcases ih h with h|⟨h1,h2⟩
   ·exact .inl h
   ·exact .inr ⟨aN _ h1,h2⟩
theorem aaz{cells:fk}{names:List (Str×NameKind)}:∀{acc:fk}{p:Str×Addr},p∈acc→p∈iU cells names acc:=by
 induction names with
 |nil=>exact @λ_ _ h=>h
 |cons hd0 r ih=>
  obtain⟨m,k⟩:=hd0;intro acc p h;unfold iU;split
  ·exact ih (aN _ h)
  ·exact ih h
theorem aaA{cells:fk}{names:List (Str×NameKind)}:∀{acc:fk}{n:Str},(n,.free)∈names→(n,(cells.lookup n).getD 0)∈iU cells names acc:=by
 induction names with
 |nil=>intro acc n h;cases h
 |cons p r ih=>
  intro acc n h;unfold iU;rcases bf.mp h with e|h
  ·cases e;exact aaz gu
  ·split
   ·exact ih h
   ·exact ih h
def HS{names:List (Str×NameKind)}:∀{h:Heap}{acc:fk}{x:Str}{c:Addr},(x,c)∈cellsFrom h.objs.size names acc→
  (x,c)∈acc∨((x,.cell)∈names∧h.objs.size≤c∧Qe (pushCells h names) c none):=by
 induction names with
 |nil=>exact @λ_ _ _ _ h=>.inl h
 |cons hd0 r ih=>
  obtain⟨n,k⟩:=hd0;intro h acc x c hm;unfold cellsFrom at hm;unfold pushCells;split at hm
  ·rename_i hk;rw[af hk];have hk:k=.cell:=by simpa using hk
   rw[←pY h {cls:=.type "cell",data:=.cell none}] at hm;rcases ih hm with hm|⟨h1,h2,h3⟩
   ·rcases bf.mp hm with e|hm
    ·cases e;exact .inr ⟨hk▸ gu,bO _,_,Oq r _ _ _ (g9 _ rfl),rfl⟩
    ·exact .inl hm
   ·rw[pY] at h2;exact .inr ⟨aN _ h1,Os h2,h3⟩
  ·rename_i hk;rw[ah hk];rcases ih hm with hm|⟨h1,h2,h3⟩
   ·exact .inl hm
   ·exact .inr ⟨aN _ h1,h2,h3⟩
theorem Qh{names:List (Str×NameKind)}:∀{n:Nat}{acc:fk}{p:Str×Addr},p∈acc→p∈cellsFrom n names acc:=by
 induction names with
 |nil=>exact @λ_ _ _ h=>h
 |cons hd0 r ih=>
  obtain⟨m,k⟩:=hd0;intro n acc p h;unfold cellsFrom;split
  ·exact ih (aN _ h)
  ·exact ih h
theorem aaB{names:List (Str×NameKind)}:∀{n:Nat}{acc:fk}{x:Str},(x,.cell)∈names→∃c,(x,c)∈cellsFrom n names acc:=by
 induction names with
 |nil=>intro n acc x h;cases h
 |cons p r ih=>
  intro n acc x h;unfold cellsFrom;rcases bf.mp h with e|h
  ·cases e;exact⟨n,Qh gu⟩
  ·split
   ·exact ih h
   ·exact ih h
def aaC{names:List (Str×NameKind)}:∀{h:Heap}{acc:fk}{x y:Str}{c:Addr},(∀p∈acc,p.2<h.objs.size)→(∀x y c,(x,c)∈acc→(y,c)∈acc→x=y)→
  (x,c)∈cellsFrom h.objs.size names acc→(y,c)∈cellsFrom h.objs.size names acc→x=y:=by
 induction names with
 |nil=>exact @λ_ _ _ _ _ _ hi h1 h2=>hi _ _ _ h1 h2
 |cons hd0 r ih=>
  obtain⟨n,k⟩:=hd0;intro h acc x y c hl hi h1 h2;unfold cellsFrom at h1 h2;split at h1
  ·rename_i hk;rw[af hk] at h2;rw[←pY h {cls:=.type "cell",data:=.cell none}] at h1 h2;refine ih (h:=h.push _) (λp hp=>?_) (λx y c a b=>?_) h1 h2
   ·rw[pY];rcases bf.mp hp with rfl|hp
    ·exact Xl _
    ·exact Ot (hl p hp)
   ·rcases bf.mp a with e|a <;> rcases bf.mp b with e'|b
    ·cases e;cases e';rfl
    ·cases e;exact absurd (hl _ b) (qV _)
    ·cases e';exact absurd (hl _ a) (qV _)
    ·exact hi _ _ _ a b
  ·rename_i hk;rw[ah hk] at h2;exact ih hl hi h1 h2
def aaD{M:Model}{A:Around}{E:VP}{s:Sh}{scope:Scope}{globals:Addr}{Oc:fk}{cY:Str}{W1:OA}{code:Value}{W2:Env}{W3:Addr}{Q:Env→Shared→Prop}(h:Q (newEnv scope s.heap.objs.size globals (cellsFrom Ö scope.names Oc) cY W1 code (some W2) W3) {s with heap:=pushCells (s.heap.push {cls:=.type "dict",data:=.dict #[]}) scope.names}):
  wpAny M A (newFunctionEnv scope globals Oc [] cY W1 code (some W2) W3) Q E s:=by
 simp only[newFunctionEnv,aoF,Om];refine aP (wpAny_alloc ?_);refine aP (wpAny_layCells _ (λn k c=>rfl) scope.names Oc _ _ ?_);rw[show({s with heap:=s.heap.push {cls:=.type "dict",data:=.dict #[]}}:Sh).heap.objs.size=s.heap.objs.size+1 from pY ..];rw[List.forIn_nil];exact aP (c7 (c7 h))
def Qi{sc:Scope}{names:List (Str×NameKind)}:∀{x:Str}{k:NameKind},
  (names.map λ(n,k)=>if (k==NameKind.free&&sc.kind== .function&&sc.names.lookup n==some .cell) then (n,NameKind.cell) else (n,k)).lookup x=some k→
  ∃k',names.lookup x=some k'∧(k=k'∨(k'=.free∧k=.cell)):=by
 induction names with
 |nil=>
  intro _ _ h;simp at h
 |cons hd0 r ih=>
  obtain⟨n,k₀⟩:=hd0;intro x k h;have ih:=@ih x k;have h':List.lookup x ((if (k₀==NameKind.free&&sc.kind== .function&&sc.names.lookup n==some .cell)=true then (n,NameKind.cell) else (n,k₀))::(r.map _))=some k:=h;cases hx:x==n with
  |true=>
   simp only[wj,hx];by_cases hc:(k₀==NameKind.free&&sc.kind== .function&&sc.names.lookup n==some .cell)=true
   ·rw[af hc] at h';simp only[wj,hx] at h';cases h';simp only[jq,ya] at hc;exact⟨k₀,rfl,.inr ⟨hc.1.1,rfl⟩⟩
   ·rw[ah hc] at h';simp only[wj,hx] at h';cases h';exact⟨_,rfl,.inl rfl⟩
  |false=>
   simp only[wj,hx];by_cases hc:(k₀==NameKind.free&&sc.kind== .function&&sc.names.lookup n==some .cell)=true
   ·rw[af hc] at h';simp only[wj,hx] at h';exact ih h'
   ·rw[ah hc] at h';simp only[wj,hx] at h';exact ih h'
structure wR(N:LS)(sc scope:Scope)(own:List (Str×Nat)):Prop where
 kind:scope.kind=.function
 uniq:∀y∈scope.names,scope.names.lookup y.1=some y.2
 ix:∀p∈own,N[p.2]? =some p.1
 free:∀y∈scope.names,y.2=.free→sc.names.lookup y.1=some .cell∨sc.names.lookup y.1=some .free
 own:∀y∈scope.names,y.2=.local∨y.2=.cell→y.1∈own.map (·.1)∨y.1∉N
def wipe(σ:St):LN→St
 |[]=>σ
 |v::vs=>(wipe σ vs).set v none
theorem Qj(σ:St):∀vs:LN,(wipe σ vs).length=σ.length:=by
 intro vs;induction vs with
 |nil=>exact rfl
 |cons v vs ih=>
  unfold wipe;rw[List.length_set,ih]
theorem Qk{σ:St}{i:Nat}{x:V}{vs:LN}:ķ[i]? =some (some x)→σ[i]? =some (some x)∧i∉vs:=by
 induction vs with
 |nil=>exact @λh=>⟨h,by simp⟩
 |cons v vs ih=>
  intro h;unfold wipe at h;by_cases hi:v=i
  ·subst hi;by_cases hv:v<(wipe σ vs).length
   ·rw[Xe hv] at h;cases h
   ·rw[yd (by simpa using hv)] at h;cases h
  ·rw[Xf hi] at h;obtain⟨h1,h2⟩:=ih h;exact⟨h1,by simp only[bf,not_or];exact⟨λe=>hi e.symm,h2⟩⟩
abbrev Cx.gc(X:Cx)(s:Sh)(H:Hp)(scope:Scope)(fb:Env)(fp:LA):Cx:={X with jb:=s,wt:=H,env:=fb,outer:=X.stack,ex:=fp,fn:=λx=>scope.names.lookup x==some .cell,pn:=[],xe:=λ_ _=>False}
section
variable{X:Cx}{pins:bI}{σ:St}{H:Hp}{s:Sh}
def aaE{scope:Scope}{own:List (Str×Nat)}{fp:LA}(I:Á H s)(ok:ĩ own)(hN:X.N.Nodup)(yD:∀b∈fp,ľ H b∧b<s.heap.objs.size):
  Inv (X.gc s H scope (compEnvC scope (cellsFrom Ö scope.names (Ű [])) s.heap.objs.size X.env) fp) [] (wipe σ (own.map (·.2))) H {s with heap:=pushCells (s.heap.push {cls:=.type "dict",data:=.dict #[]}) scope.names}:=by
 have C8:∀y∈scope.names,y.2=.free→∃c,X.env.cells.lookup y.1=some c:=λy hy e=>by
  rcases ok.free y hy e with k|k
  ·exact I.ok.has _ (.inl k)
  ·exact I.ok.has _ (.inr k)
 generalize hcenv:compEnvC scope (cellsFrom Ö scope.names (Ű [])) s.heap.objs.size X.env=fb;have kp:∀b o,s.heap.get? b=some o→(pushCells (s.heap.push {cls:=.type "dict",data:=.dict #[]}) scope.names).get? b=some o:=λb o e=>Oq _ _ _ _ (dh _ e);have hL:fb.locals=s.heap.objs.size:=by rw[←hcenv];rfl
 have gE:fb.cells=cellsFrom Ö scope.names (Ű []):=by rw[←hcenv];rfl
 have HU:fb.scope=aaw scope X.env.scope:=by rw[←hcenv];rfl
 rw[←pY s.heap {cls:=.type "dict",data:=.dict #[]}] at gE;have cm:∀{y c},(y,c)∈iU X.env.cells scope.names []→X.env.cells.lookup y=some c∧c<s.heap.objs.size:=λ{y c}hm=>by
  rcases Qg hm with hm|⟨h1,rfl⟩
  ·cases hm
  ·obtain⟨c,hc⟩:=C8 _ h1 rfl;rw[hc];obtain⟨w,z⟩:=I.cell _ _ hc;exact⟨rfl,z.lt⟩
 have mem:∀{y c},fb.cells.lookup y=some c→(X.env.cells.lookup y=some c∧c<s.heap.objs.size)∨(s.heap.objs.size+1≤c∧Qe (pushCells (s.heap.push {cls:=.type "dict",data:=.dict #[]}) scope.names) c none):=λ{y c}e=>by
  rw[gE] at e;rcases HS ϯ with hm|⟨_,h2,h3⟩
  ·exact .inl (cm hm)
  ·rw[pY] at h2;exact .inr ⟨h2,h3⟩
 have look:∀{y},scope.names.lookup y=some .free→∃c,fb.cells.lookup y=some c∧X.env.cells.lookup y=some c:=λ{y}hl=>by
  have hy:(y,NameKind.free)∈scope.names:=PySem.mem_of_lookup hl;obtain⟨c',e'⟩:=mem_lookup (Qh (names:=scope.names) (n:=(s.heap.push {cls:=.type "dict",data:=.dict #[]}).objs.size) (aaA (cells:=X.env.cells) (acc:=[]) hy));rw[←gE] at e';refine⟨c',e',?_⟩;rw[gE] at e';rcases HS (PySem.mem_of_lookup e') with hm|⟨h1,_,_⟩
  ·exact(cm hm).1
  ·have:=ok.uniq _ h1;rw[hl] at this;cases this
 have okB:(X.gc s H scope fb fp).Ok:=by
  refine⟨I.ok.mod,by show fb.scope.kind=_;rw[HU];exact ok.kind,by show fb.globals=_;rw[←hcenv];exact I.ok.glob,by show fb.builtins=_;rw[←hcenv];exact I.ok.blt,by show s.heap.objs.size≤fb.locals;rw[hL];exact bO _,
   λy z c e1 e2=>?_,λy hy=>?_,λy c z e=>?_,I.ok.hd,I.ok.frames,.inl rfl,λb hb=>⟨?_,λy c e z=>?_⟩,I.bs,gW I.ok.qe I.sz,λb o e hb=>?_,λb hb z=>?_,I.stack,I.C7⟩
  ·have e1:fb.cells.lookup y=some c:=e1;have e2:fb.cells.lookup z=some c:=e2;rw[gE] at e1 e2;refine aaC (λp hp=>?_) (λy z c a b=>I.ok.inj y z c (cm a).1 (cm b).1) (PySem.mem_of_lookup e1) (PySem.mem_of_lookup e2);rw[pY];exact Ot (cm (y:=p.1) (c:=p.2) hp).2
  ·show ∃c,fb.cells.lookup y=some c;have g8:∀k,fb.kindOf y=some k→(k=.cell∨k=.free)→∃c,fb.cells.lookup y=some c:=λk hk kj=>by
    unfold Env.kindOf at hk;rw[HU] at hk;obtain⟨k',e,r⟩:=Qi hk;have:k'=.cell∨k'=.free:=by
     rcases r with rfl|⟨rfl,_⟩
     ·exact kj
     ·exact .inr rfl
    rcases this with rfl|rfl
    ·obtain⟨c,hm⟩:=aaB (n:=(s.heap.push {cls:=.type "dict",data:=.dict #[]}).objs.size) (acc:=Ű []) ϯ;obtain⟨c',e'⟩:=mem_lookup hm;exact⟨c',by rw[gE];exact e'⟩
    ·obtain⟨c,h1,_⟩:=look e;exact⟨c,h1⟩
   rcases hy with hy|hy
   ·exact g8 _ hy Ą
   ·exact g8 _ hy Æz
  ·have z:(scope.names.lookup y==some NameKind.cell)=true:=z;have z:scope.names.lookup y=some .cell:=by simpa using z
   have e:fb.cells.lookup y=some c:=e;rw[gE] at e;rcases HS ϯ with hm|⟨_,h2,_⟩
   ·rcases Qg hm with hm|⟨h1,_⟩
    ·cases hm
    ·have q:=ok.uniq _ h1;rw[z] at q;cases q
   ·rw[pY] at h2;exact Os h2
  ·show b≠fb.locals;rw[hL];exact fU (yD b hb).2
  ·have e:fb.cells.lookup y=some c:=e;rcases mem e with ⟨h1,_⟩|⟨h1,_⟩
   ·exact(yD b hb).1.2.2.2.2.1 y c h1 z
   ·have h2:s.heap.objs.size+1≤b:=by rw[←z];exact h1
    exact absurd (i8 (yD b hb).2 (Os h2)) (qV _)
  ·rcases(yD b hb).1.2.2.2.1 with z|z
   ·exact I.ok.yl b o e z
   ·exact absurd (i8 (di e) (gW I.ok.qe z)) (qV _)
  ·rcases bf.mp (I.G7 b z) with z|z
   ·exact(yD b hb).1.2.1 z
   ·exact(yD b hb).1.2.2.1 z
 refine⟨okB,rfl,I.bare,Un.kept kp,⟨λ_=>none,?_,λi y av e1 e2 e3=>?_⟩,λy c e=>?_,?_,λy c e=>?_,λp hp=>?_,I.ax.kept kp,by rw[Qj];exact I.len⟩
 ·show Heap.Ns _ fb.locals _;rw[hL];exact Heap.Ns.keeps (Heap.Ns.new ..) λb o e=>Oq _ _ _ _ e
 ·obtain⟨e2,aQ⟩:=Qk e2;have o6:scope.names.lookup y=some .free∧(fb.kindOf y=some .cell∨fb.kindOf y=some .free):=by
   have g8:∀k,fb.scope.names.lookup y=some k→k=.local∨k=.cell∨k=.free→scope.names.lookup y=some .free∧(fb.kindOf y=some .cell∨fb.kindOf y=some .free):=λk hk kj=>by
    have Ql:=hk;rw[HU] at hk;obtain⟨k',e,r⟩:=Qi hk;have no:¬(k'=.local∨k'=.cell):=λhh=>by
     rcases ok.own _ ϯ hh with e'|e'
     ·obtain⟨p,hp,hpy⟩:=cb.mp e';have e3:=ok.ix p hp;have:p.1=y:=hpy;rw[this] at e3;exact aQ (cb.mpr ⟨p,hp,Hd hN e3 e1⟩)
     ·exact e' (bY e1)
    rcases r with rfl|⟨rfl,rfl⟩
    ·rcases kj with rfl|rfl|rfl
     ·exact absurd Ą no
     ·exact absurd Æz no
     ·exact⟨e,.inr Ql⟩
    ·exact⟨e,.inl Ql⟩
   have e3:wu fb.scope y:=e3;rcases e3 with e3|e3|e3
   ·exact g8 _ e3 Ą
   ·exact g8 _ e3 (.inr Ą)
   ·exact g8 _ e3 (.inr Æz)
  obtain⟨m,hn,hl⟩:=I.loc;have aaH:wu X.env.scope y:=(ok.free _ (PySem.mem_of_lookup o6.1) rfl).elim (λk=>.inr (.inl k)) (λk=>.inr (.inr k));obtain⟨w,r,q⟩:=hl i y av e1 e2 aaH;refine⟨w,r,.inr ⟨o6.2,?_⟩⟩;obtain⟨c,h1,h2⟩:=look o6.1;rcases q with ⟨k,_⟩|⟨_,c',e',z⟩
  ·have k:X.env.scope.names.lookup y=some .local:=k;rcases ok.free _ (PySem.mem_of_lookup o6.1) rfl with k'|k' <;> rw[show X.env.scope.names.lookup y=_ from k'] at k <;> cases k
  ·rw[h2] at e';cases e';exact⟨c,h1,z.keeps kp⟩
 ·have e:fb.cells.lookup y=some c:=e;rcases mem e with ⟨h1,_⟩|⟨_,z⟩
  ·obtain⟨w,z⟩:=I.cell y c h1;exact⟨w,z.keeps kp⟩
  ·exact⟨_,z⟩
 ·show H fb.locals=none;rw[hL];exact I.ax.fresh (bO _)
 ·have e:fb.cells.lookup y=some c:=e;rcases mem e with ⟨h1,_⟩|⟨h1,_⟩
  ·exact I.lH y c h1
  ·exact I.ax.fresh (Os h1)
 ·exact absurd (show p∈([]:bI)++[] from hp) Â
def aaI(I:Á H s)(hD:H D=some ϱ)(hz:xs.length<sizeLine)(r:RelV y v)(h:∀s',Á (upd H D (.lst (xs++[y]))) s'→Q .none s'):wpAny Æ X.A (call (.builtin "list.append") [.ref D,v]) Q E s:=by
 obtain⟨C5,aj,n,ri,e⟩:=I.ax D _ hD;have hl:=ri.length;refine append_at (hsz:=by simp_all) e λh' sb oS=>?_;refine h {s with heap:=h'} (I.write (t':=s.toks) (by rw[hD];trivial) Ą (λb u hb q=>(sb.2 b hb).trans q) ⟨_,oS⟩ ⟨by grind,aj++[v],n+1,ri.append (.cons r .nil),?_⟩);simp_all
def wU(X:Cx)(jo:List Expr)(t:TT):Prop:=
 ∀(pins:bI)(s:Sh)(σ:St)(H:Hp)(Q:Bool→Hp→Prop),Á H s→t σ H Q→
  wpAny Æ X.A (forIn jo true λc r=>if r=true then do let ok ←isTrue c X.env (eval c X.env);pure (ForInStep.yield ok) else pure (ForInStep.yield r)) Âo X.xe s
def AK:TT:=λ_ H Q=>Q true H
def eI:wU X [] AK:=λ_ _ _ H _ I h=>wpAny_tests_nil ⟨H,I,h⟩
def o7(h:PT X c t):wU X [c] t:=λpins s σ H Q I hw=>wpAny_tests_one Âk
end
def AL(h:ſ t Q Ãr s)(hQ:∀a s,Q a s→Q' a s):ſ t Q' E s:=i6 h hQ λ_ _ z=>False.elim z
def aaJ(I:Nat→Shared→Prop)(turn:∀n s,I n s→wpAny Ð A (pyNext it) (λr s₁=>match r with
   |none=>R (.ok .next) s₁
   |some v=>wpAny Ð A (letOwnedTupleGo Cp it v) (λ_ s₁'=>wpAny Ð A (assign Cp env v) (λ_ s₂=>
     wpAny Ð A (forIn jo true λc r=>if r=true then do let ok ←isTrue c env (eval c env);pure (ForInStep.yield ok) else pure (ForInStep.yield r)) (λok s₃=>
      if ok=true then wpAny Ð A (eval jZ env) (λx s₄=>
       wpAny Ð A (call (.builtin "list.append") [acc,x]) (λ_ s₅=>∃m,m<n∧I m s₅) (notedBy Ð A env λe s'=>R Ào s') s₄) (notedBy Ð A env λe s'=>R Ào s') s₃
      else ∃m,m<n∧I m s₃) (notedBy Ð A env λe s'=>R Ào s') s₂) (notedBy Ð A env λe s'=>R Ào s') s₁') (notedBy Ð A env λe s'=>R Ào s') s₁) (notedBy Ð A env λe s'=>R Ào s') s)
  (n:Nat) (h:I n s):
  codeAny Ð A (.compLoop (.ListComp jZ [⟨Cp,iter,jo,0⟩] scope pos) 0 it acc env) R s:=by
 refine codeAny_loop rfl I (λn s hI=>?_) n h;show wpAny _ A ((compTurn (.ListComp jZ [⟨Cp,iter,jo,0⟩] scope pos) 0 it acc env).onRaise (λx=>do noteFrame x env;theTreesLotGoes x)) _ _ s;refine wpAny_noted ?_;rw[compTurn_list];refine aP (Ou (aP (i6 (turn n s hI) (λr s₁ h₁=>?_) λ_ _ h'=>h')));cases r with
 |none=>exact c7 h₁
 |some v=>
  refine aP (i6 h₁ (λ_ s₁' h₁'=>?_) λ_ _ h'=>h');refine aP (i6 h₁' (λ_ s₂ h₂=>aP (i6 h₂ (λok s₃ h₃=>?_) λ_ _ h'=>h')) λ_ _ h'=>h');cases ok with
  |false=>exact c7 ⟨rfl,h₃⟩
  |true=>
   exact aP (aP (i6 h₃ (λx s₄ h₄=>aP (i6 h₄ (λ_ s₅ h₅=>c7 (c7 ⟨rfl,h₅⟩)) λ_ _ h'=>h')) λ_ _ h'=>h'))
section
inductive jJ(D:Addr)(N:Hp→Prop)(y:V)(H:Hp):Prop
 |mk (acc:aq) (_:H D=some (.lst acc)) (_:acc.length<sizeLine) (_:N (upd H D (.lst (acc++[y]))))
def AM(wi:TI)(g:TG)(tt:TT)(te:TE)(vs:LN):TE:=λσ H Q=>wi σ H λJ H1=>∀D,H1 D=none→∃W:Nat→Nat→Hp→Prop,(∃m,W 0 m Ĉ)∧∀i m H,W i m H→
 (J.stop i H∧Q Áe H)∨(J.go i H∧∃Nx:Hp→Prop,(∀H',Nx H'→∃m',m'<m∧W (i+1) m' H')∧∀x H',J.mJ i H x H'→g x ķ H' λσ2 H2=>wipe σ2 vs=wipe σ vs∧tt σ2 H2 λb H3=>
  if b=true then te σ2 H3 Ån else Nx H3)
def Qm{Ex:VP}{Eb:Cx→VP}(hc:X.calm=true) (hN:X.N.Nodup) (I:Á H s) (hi:PI (X.iA Ex) tg iter wi) (ok:ĩ own)(hg:∀(s:Sh)(H:Hp)(C:Addr)(cl:fk)(fp:LA),PG Î tg g) (ht:∀(s:Sh)(H:Hp)(C:Addr)(cl:fk)(fp:LA),wU Î jo tt)(he:∀(s:Sh)(H:Hp)(C:Addr)(cl:fk)(fp:LA),PE ((X.gc s H scope Àq fp).iA (Eb Î)) jZ te) (hs:∀x,foldedSetIterable iter X.env x=pure x)(h:AM wi g tt te (own.map (·.2)) σ H Q)(hRR:∀D C s' m H',Á H' s'→Q Áe H'→s'.heap.Ns C m→ľ H' C→compPost Æ X.A Ex use Qf Áe C (.ok .next) s')(hX:∀s3 H3 cl fp D e s',Á H3 s3→(∀b∈fp,ľ H3 b∧b<s3.heap.objs.size)→Eb (X.gc s3 H3 scope Ğ fp) e s'→notedBy Æ X.A Ğ (λe=>compPost Æ X.A Ex use Qf Áe s3.heap.objs.size Ào) e s'):
  wpAny Æ X.A (comprehension Þ scope X.env kU (newList []) false (eval iter X.env) use) Qf Ex s:=by
 have C8:∀y∈scope.names,y.2=.free→∃c,X.env.cells.lookup y.1=some c:=λy hy e=>by
  rcases ok.free y hy e with k|k
  ·exact I.ok.has _ (.inl k)
  ·exact I.ok.has _ (.inr k)
 refine wpAny_comprehension_free (use:=use) rfl hs (aay C8) ok.kind (λy hy e=>by rw[ok.uniq y hy,e])
  (aL (hi pins s σ H _ (I.iA _) h) λxv s1 hx=>aL hx λHl s2 h2=>?_)
 obtain⟨it,fp,tn,J,H2,e,I2,T,Dh,f2,q⟩:=h2;have I2:=I2.lI;subst e;refine Oe (aaD ?_) (by show 0≤sizeLine;decide);generalize hD:s2.heap.objs.size=D;have hDn:H2 D=none:=I2.ax.fresh (Cv hD);obtain⟨W,⟨m0,w0⟩,turn⟩:=q D hDn;generalize HV:({s2 with heap:=s2.heap.push {cls:=.type "list",data:=.seq ([]:LV).toArray}}:Sh)=s3;have I3:Á Àu s3:=by
  rw[←HV];refine I2.laid (t':=s2.toks) Åe (Cv hD) ⟨dQ _,[],0,.nil,?_⟩;rw[←hD];exact g9 _ rfl
 have h3:s3.heap=s2.heap.push {cls:=.type "list",data:=.seq ([]:LV).toArray}:=by rw[←HV]
 have sz:∀b∈fp,b<s2.heap.objs.size:=λb hb=>by
  obtain⟨o,e,_⟩:=T.obj _ _ Dh b hb;exact di e
 have f3:∀b∈fp,ľ Àu b∧b<s3.heap.objs.size:=λb hb=>by
  have bJ:=sz b hb;refine⟨⟨?_,(f2 b hb).2⟩,by rw[h3,pY];exact Ot bJ⟩;rw[au (by grind)];exact(f2 b hb).1
 have Di:tn 0 s3.heap:=T.keep _ _ _ Dh λb _ o e=>by rw[h3];exact dh _ e
 have I4:=aaE I3 ok hN f3;have pg:=hg s3 Àu s3.heap.objs.size æ fp;have pt:=ht s3 Àu s3.heap.objs.size æ fp;have pe:=he s3 Àu s3.heap.objs.size æ fp;show codeAny _ _ (.compStart Þ 0 Ât Áe (compEnvC scope æ s3.heap.objs.size X.env)) (compPost Æ X.A Ex use Qf Áe s3.heap.objs.size) {s3 with heap:=pushCells (s3.heap.push {cls:=.type "dict",data:=.dict #[]}) scope.names};have Qn:∀b∈fp,(Àu) b=none:=λb hb=>(f3 b hb).1.1;generalize ko:compEnvC scope æ s3.heap.objs.size X.env=ce at I4 pg pt pe⊢;have cL:ce.locals=s3.heap.objs.size:=by subst ko;rfl
 generalize hH3:upd H2 D à=H3 at I3 I4 pg pt pe w0 Qn f3;generalize hs4:({s3 with heap:=pushCells (s3.heap.push {cls:=.type "dict",data:=.dict #[]}) scope.names}:Sh)=s4 at I4⊢;have Qo:tn 0 s4.heap:=T.keep _ _ _ Di λb _ o e=>by rw[←hs4];exact Oq _ _ _ _ (dh _ e)
 have wC:∀{σ':St}{H':Hp}{s':Sh},Inv ė [] σ' H' s'→(∀b∈fp,H' b=none)→∀b∈fp,lJ ė [] H' b:=λ{σ' H' s'}I' hn b hb=>
  ⟨hn b hb,(I'.ok.An b hb).1,I'.ok.ym b hb,.inl hb,λx c e=>(I'.ok.An b hb).2 x c e,λp hp=>absurd (show p∈([]:bI)++[] from hp) Â⟩
 have W4:codeAny Æ X.A (.compLoop Þ 0 Ât Áe ce) (compPost Æ X.A Ex use Qf Áe s3.heap.objs.size) s4:=by
  refine aaJ (λn s'=>∃i H',Inv ė [] (wipe σ (own.map (·.2))) H' s'∧tn i s'.heap∧(∀b∈fp,H' b=none)∧W i n H') ?_ m0 ⟨0,H3,I4,Qo,Qn,w0⟩;rintro n s5 ⟨i,H5,I5,yq,n5,w5⟩;rcases turn i n H5 w5 with ⟨stop,qq⟩|⟨go,Nx,hNx,step⟩
  ·have td:=T.done ė rfl rfl rfl hc i [] s5 _ H5 Ãr I5 (wC I5 n5) yq stop;refine AL td λr s6 ⟨hr,I6⟩=>?_;subst hr;have I7:Á H5 s6:=I3.uV (ch:=fp) I6.os I6.base I6.ax I6.bare λb hb=>⟨(f3 b hb).1.2.2.2.1,(f3 b hb).1.2.1,(f3 b hb).1.2.2.2.2.1,(f3 b hb).1.2.2.2.2.2⟩;have nC:H5 s3.heap.objs.size=none:=by
    have z:H5 ce.locals=none:=I6.free;rw[cL] at z;exact z
   obtain⟨m,hn,_⟩:=I6.loc;have hn:s6.heap.Ns ce.locals m:=hn;rw[cL] at hn;exact hRR D s3.heap.objs.size s6 m H5 I7 qq hn (I3.uY (bO _) nC)
  ·have ti:=T.item ė rfl rfl rfl hc i [] s5 _ H5 Ãr I5 (wC I5 n5) yq go;refine AL ti λr s6 ⟨u,hr,h6⟩=>?_;subst hr;refine AL h6 λ_ s7 ⟨x,H7,I7,r7,y7,HW,n7⟩=>?_;have I7':=I7.pinned (wC I7 n7) (T.obj _ _ HW);refine AL (pg _ s7 _ H7 x u _ I7' r7 (step x H7 y7)) λ_ s8 ⟨σ8,H8,I8,Du,q8⟩=>?_;refine AL (pt _ s8 σ8 H8 _ I8 q8) λb s9 ⟨H9,I9,q9⟩=>?_;have fin:∀{s':Sh}{H':Hp},Inv ė ([]++Aw fp s7.heap) σ8 H' s'→Nx H'→∃m,m<n∧∃i H',Inv ė [] (wipe σ (own.map (·.2))) H' s'∧tn i s'.heap∧(∀b∈fp,H' b=none)∧W i m H':=λ{s' H'}I' nx=>by
    obtain⟨m',hm,w'⟩:=hNx H' nx;have Qp:∀b∈fp,∀o,s7.heap.get? b=some o→s'.heap.get? b=some o∧H' b=none:=λb hb o e=>
     let z:=I'.pin (b,o) (tj _ (tj _ (Ho hb e)))
     ⟨z.1,z.2.1⟩
    have hl:(wipe σ (own.map (·.2))).length=σ8.length:=by rw[←Du,Qj]
    refine⟨m',hm,i+1,H',(I'.Dg (pins:=[])).weak hl (λj v e=>?_),T.keep _ _ _ HW λb hb o e=>(Qp b hb o e).1,λb hb=>?_,w'⟩
    ·rw[←Du] at e;exact(Qk e).1
    ·obtain⟨o,e,_⟩:=T.obj _ _ HW b hb;exact(Qp b hb o e).2
   cases b with
   |false=>
    simp only[Bool.false_eq_true,if_false] at q9⊢;exact fin I9 q9
   |true=>
    simp only[Om] at q9⊢;exact i6 (pe _ s9 σ8 H9 _ (I9.iA _) q9) (λz nY ⟨yv,Dv,I10,r10,acc,aaQ,aaR,nx⟩=>aaI (X:=X.gc s3 H3 scope ce fp) I10.lI aaQ aaR r10 λkq vb=>fin vb nx) λe nY hz=>ko▸ hX s3 H3 _ fp D e nY I3 f3 (ko▸ hz)
 exact codeAny_compStart_list W4 (T.self X.A 0 _ _ _ Qo W4)
def eB(hc:X.calm=true)(hN:X.N.Nodup)(hi:PI X tg iter wi)(ok:ĩ own)(hg:∀(s:Sh)(H:Hp)(C:Addr)(cl:fk)(fp:LA),PG Î tg g) (ht:∀(s:Sh)(H:Hp)(C:Addr)(cl:fk)(fp:LA),wU Î jo tt)(he:∀(s:Sh)(H:Hp)(C:Addr)(cl:fk)(fp:LA),PE Î jZ te) (hs:∀x,foldedSetIterable iter X.env x=pure x:=by intro _;rfl):
  PE X Þ (AM wi g tt te (own.map (·.2))):=by
 show Ô;rw[eval_ListComp];refine Qm (Ex:=X.xe) (Eb:=λ_ _ _=>False) hc hN I hi ok hg ht he hs h (λD C s' m H' I' q hn f=>⟨m,hn,λo8 sb=>?_⟩) λ_ _ _ _ _ _ _ _ _ z=>z.elim;obtain⟨f0,f1,f2,f3,f4,f5⟩:=f;exact⟨.ref D,H',I'.turned (t':=s'.toks) (λb o hb e=>(sb.2 b hb).trans e) f0 f1 f3 f4 f5,rfl,q⟩
def Qq{Ex:VP}{Eb:Cx→VP}(hc:X.calm=true)(hN:X.N.Nodup)(hy:X.N[i]? =some y)(rL:X.env.scope.names.lookup y=some .local)(AN:swapsWith Þ (some (.Name y py)) vc.line X.env=pure true) (hi:PI (X.iA Ex) tg iter wi) (ok:ĩ own)(hg:∀(s:Sh)(H:Hp)(C:Addr)(cl:fk)(fp:LA),PG Î tg g) (ht:∀(s:Sh)(H:Hp)(C:Addr)(cl:fk)(fp:LA),wU Î jo tt)(he:∀(s:Sh)(H:Hp)(C:Addr)(cl:fk)(fp:LA),PE ((X.gc s H scope Àq fp).iA (Eb Î)) jZ te) (hs:∀x,foldedSetIterable iter X.env x=pure x) (hX:∀{use:Option (Value→Sem Unit)}{Qf:VP}pins σ s3 H3 cl fp D e s',Á H3 s3→(∀b∈fp,ľ H3 b∧b<s3.heap.objs.size)→Eb (X.gc s3 H3 scope Ğ fp) e s'→notedBy Æ X.A Ğ (λe=>compPost Æ X.A Ex use Qf Áe s3.heap.objs.size Ào) e s'):
  PS (X.iA Ex) (.Assign [.Name y py] Þ vc) (yp (AM wi g tt te (own.map (·.2))) (oX i)):=by
 intro pins s σ H D I h;rw[exec_Assign_Name_used _ _ _ _ AN];refine aP (Ou (aP ?_));have h:=h;refine aP (aL (Qm (X:=X) (Eb:=Eb) (Qf:=λ_ s'=>SP (X.iA Ex) pins D .next s') hc hN I.lI hi ok hg ht he hs h (λL C s' m H' I' q hn f=>?_) (hX pins σ)) λ_ s' hq=>c7 (c7 hq));refine wpAny_assign_Name (OY (v:=V.ref L) I' hN hy (.inl rL) rfl (λs2 I2 ⟨a,sb,ha⟩=>?_) (.inr rL));obtain⟨f0,f1,f2,f3,f4,f5⟩:=f;have haC:C≠a:=by
  grind
 refine⟨m,hn.sameBut sb haC,λh3 sb3=>?_⟩;exact⟨_,H',(I2.turned (t':=s2.toks) (λb o hb e=>(sb3.2 b hb).trans e) f0 f1 f3 f4 f5).iA _,q⟩
def tW(hc:X.calm=true)(hN:X.N.Nodup)(hy:X.N[i]? =some y)(rL:X.env.scope.names.lookup y=some .local)(AN:swapsWith Þ (some (.Name y py)) vc.line X.env=pure true) (hi:PI X tg iter wi) (ok:ĩ own)(hg:∀(s:Sh)(H:Hp)(C:Addr)(cl:fk)(fp:LA),PG Î tg g) (ht:∀(s:Sh)(H:Hp)(C:Addr)(cl:fk)(fp:LA),wU Î jo tt)(he:∀(s:Sh)(H:Hp)(C:Addr)(cl:fk)(fp:LA),PE Î jZ te) (hs:∀x,foldedSetIterable iter X.env x=pure x:=by intro _;rfl):
  PS X (.Assign [.Name y py] Þ vc) (yp (AM wi g tt te (own.map (·.2))) (oX i)):=by
 exact Qq (Ex:=X.xe) (Eb:=λ_ _ _=>False) hc hN hy rL AN hi ok hg ht he hs λ_ _ _ _ _ _ _ _ _ _ _ z=>z.elim
end
def Dx{lo:Int}{n:Nat}{g:TG}{tt:TT}{te:TE}{vs:LN}{σ:St}{H1:Hp}{D:Addr}{Qd:Hp→Prop}(Pv:Nat→Hp→Prop)(h0:Pv 0 Ĉ)(hs:∀i H,i<n→Pv i H→g (.int (lo+i)) ķ H λσ2 H2=>wipe σ2 vs=wipe σ vs∧tt σ2 H2 λb H3=>
   if b=true then te σ2 H3 (jJ D (Pv (i+1))) else Pv (i+1) H3) (hd:∀H,Pv n H→Qd H):
  ∃W:Nat→Nat→Hp→Prop,(∃m,W 0 m Ĉ)∧∀i m H,W i m H→
   ((wB lo n).stop i H∧Qd H)∨((wB lo n).go i H∧∃Nx:Hp→Prop,(∀H',Nx H'→∃m',m'<m∧W (i+1) m' H')∧∀x H',(wB lo n).mJ i H x H'→g x ķ H' λσ2 H2=>wipe σ2 vs=wipe σ vs∧tt σ2 H2 λb H3=>
    if b=true then te σ2 H3 Ån else Nx H3):=by
 refine⟨λi m H=>m=n-i∧i≤n∧Pv i H,⟨n,by simp,dQ _,h0⟩,?_⟩;rintro i m H ⟨rfl,hi,p⟩;by_cases bJ:i<n
 ·refine .inr ⟨bJ,Pv (i+1),λH' p'=>⟨n-(i+1),by omega,rfl,bJ,p'⟩,λx H' y=>?_⟩;obtain⟨e,y⟩:=y;simp_all
 ·have e:i=n:=by omega
  subst e;exact .inl ⟨bO _,hd H p⟩
def gy{K:FR}{a:Addr}{xs:aq}{g:TG}{tt:TT}{te:TE}{vs:LN}{σ:St}{H1:Hp}{D:Addr}{Qd:Hp→Prop}(Pv:Nat→Hp→Prop)(h0:Pv 0 Ĉ)(hl:∀i H,i≤xs.length→Pv i H→ß a xs)(hs:∀i x H,xs[i]? =some x→Pv i H→g x ķ H λσ2 H2=>wipe σ2 vs=wipe σ vs∧tt σ2 H2 λb H3=>
   if b=true then te σ2 H3 (jJ D (Pv (i+1))) else Pv (i+1) H3) (hd:∀H,Pv xs.length H→Qd H):
  ∃W:Nat→Nat→Hp→Prop,(∃m,W 0 m Ĉ)∧∀i m H,W i m H→
   ((uZ K a).stop i H∧Qd H)∨((uZ K a).go i H∧∃Nx:Hp→Prop,(∀H',Nx H'→∃m',m'<m∧W (i+1) m' H')∧∀x H',(uZ K a).mJ i H x H'→g x ķ H' λσ2 H2=>wipe σ2 vs=wipe σ vs∧tt σ2 H2 λb H3=>
    if b=true then te σ2 H3 Ån else Nx H3):=by
 refine⟨λi m H=>m=xs.length-i∧i≤xs.length∧Pv i H,⟨xs.length,by simp,dQ _,h0⟩,?_⟩;rintro i m H ⟨rfl,hi,p⟩;have q:=hl i H hi p;by_cases bJ:i<xs.length
 ·refine .inr ⟨⟨xs,xs[i],q,by simp[bJ]⟩,Pv (i+1),λH' p'=>⟨xs.length-(i+1),by omega,rfl,bJ,p'⟩,λx H' y=>?_⟩;obtain⟨e,y⟩:=y;subst e;exact hs i x _ (y xs q) p
 ·have e:i=xs.length:=by omega
  subst e;exact .inl ⟨⟨xs,q,bO _⟩,hd H p⟩
def Qr(N:LS)(sc scope:Scope)(own:List (Str×Nat)):Bool:=
 (match scope.kind with|.function=>true|_=>false)&&(scope.names.all λy=>decide (scope.names.lookup y.1=some y.2))&&(own.all λp=>decide (N[p.2]? =some p.1))&&
  (scope.names.all λy=>match y.2 with
   |.free=>(match sc.names.lookup y.1 with|some .cell=>true|some .free=>true|_=>false)
   |.local=>decide (y.1∈own.map (·.1))||decide (y.1∉N)
   |.cell=>decide (y.1∈own.map (·.1))||decide (y.1∉N)
   |_=>true)
def cV{N:LS}{sc scope:Scope}{own:List (Str×Nat)}(h:Qr N sc scope own=true):wR N sc scope own:=by
 unfold Qr at h;simp only[jq,kZ,nI] at h;obtain⟨⟨⟨h1,h2⟩,h3⟩,h4⟩:=h;refine⟨?_,h2,h3,λy hy e=>?_,λy hy e=>?_⟩
 ·split at h1
  ·assumption
  ·cases h1
 ·have q:=h4 y hy;simp only[e] at q;split at q <;> first|exact .inl (by assumption)|exact .inr (by assumption)|cases q
 ·have q:=h4 y hy;rcases e with e|e <;> (simp only[e,Bool.or_eq_true,nI] at q;exact q)
end L2
namespace L2
open PySem PySem.Spec PyProof.Rows
section
end
section
end
end L2
namespace L2
open PySem PySem.Spec PyProof.Rows
section
variable{κ:Type}[DecidableEq κ]
def fJ(kvs:List (κ×V))(k:κ):Option V:=(kvs.find? λkv=>decide (kv.1=k)).map (·.2)
def putK(kvs:List (κ×V))(k:κ)(v:V):List (κ×V):=
 if (kvs.any λkv=>decide (kv.1=k))=true then kvs.map (λkv=>if kv.1=k then (kv.1,v) else kv) else kvs++[(k,v)]
def qo{p:κ×V}{r:List (κ×V)}{k:κ}(e:p.1=k):fJ (p::r) k=some p.2:=by simp[fJ,j5,e]
def qp{p:κ×V}{r:List (κ×V)}{k:κ}(e:¬p.1=k):fJ (p::r) k=fJ r k:=by simp[fJ,j5,e]
theorem HX(k:κ):∀kvs:List (κ×V),(kvs.any λkv=>decide (kv.1=k))=(fJ kvs k).isSome:=by
 intro kvs;induction kvs with
 |nil=>exact rfl
 |cons p r ih=>
  rw[tp];by_cases e:p.1=k
  ·simp only[qo e,eF e,Bool.true_or,aoF]
  ·rw[qp e,fC e,Ov];exact ih
theorem aaU(k j:κ)(y:V):∀kvs:List (κ×V),fJ (kvs.map λkv=>if kv.1=k then (kv.1,y) else kv) j=(fJ kvs j).map λx=>if j=k then y else x:=by
 intro kvs;induction kvs with
 |nil=>exact rfl
 |cons p r ih=>
  have ih:=ih;rw[aY];by_cases h:p.1=k
  ·rw[af h];by_cases e:p.1=j
   ·rw[qo (p:=(p.1,y)) e,qo e,Gy,af (e.symm.trans h)]
   ·rw[qp (p:=(p.1,y)) e,qp e,ih]
  ·rw[ah h];by_cases e:p.1=j
   ·rw[qo (p:=p) e,qo e,Gy,ah (λz=>h Çm)]
   ·rw[qp (p:=p) e,qp e,ih]
theorem aaV(k j:κ)(y:V):∀kvs:List (κ×V),fJ kvs k=none→fJ (kvs++[(k,y)]) j=if j=k then some y else fJ kvs j:=by
 intro kvs;induction kvs with
 |nil=>
  intro _;by_cases e:k=j
  ·rw[af e.symm];exact qo (p:=(k,y)) e
  ·rw[ah (λz=>e z.symm)];exact qp (p:=(k,y)) e
 |cons p r ih=>
  intro hn;rw[List.cons_append];have hk:¬p.1=k:=λz=>by rw[qo z] at hn;cases hn
  rw[qp hk] at hn;have ih:=ih hn;by_cases e:p.1=j
  ·rw[qo e,qo e,ah (λz=>hk Çm)]
  ·rw[qp e,qp e,ih]
def aaW(kvs:List (κ×V))(k j:κ)(y:V):fJ (ň y) j=if j=k then some y else fJ kvs j:=by
 unfold putK;by_cases a:(kvs.any λkv=>decide (kv.1=k))=true
 ·rw[af a,aaU];rw[HX] at a;by_cases e:j=k
  ·obtain⟨x,hx⟩:=Gs.mp a;simp_all
  ·simp_all
 ·rw[ah a];refine aaV k j y kvs ?_;rw[HX] at a;simp_all
def AQ(kvs:List (κ×V))(k:κ)(v:V):(ň v).length≤kvs.length+1:=by
 unfold putK;grind
theorem jH.HY(r:jH o u):o.isSome=u.isSome:=by
 cases o with
 |none=>cases u with
  |none=>rfl
  |some _=>exact(show False from r).elim
 |some _=>cases u with
  |none=>exact(show False from r).elim
  |some _=>rfl
theorem jH.getD(r:jH o u)(rd:RelV d d'):RelV (o.getD d) (u.getD d'):=by
 cases o with
 |none=>cases u with
  |none=>exact rd
  |some _=>exact(show False from r).elim
 |some _=>cases u with
  |none=>exact(show False from r).elim
  |some _=>exact r
theorem KV.val{kvs:List (κ×V)}{vs:List (κ×Value)}(r:KV kvs vs)(k:κ):jH (fJ kvs k) (valueAt vs k):=by
 unfold KV at r;induction r with
 |nil=>exact True.intro
 | @cons p q ps qs h t ih=>
  obtain⟨h1,h2⟩:=h;by_cases e:p.1=k
  ·have e':q.1=k:=h1.symm.trans e;have b:valueAt (q::qs) k=some q.2:=by simp[valueAt,j5,e']
   rw[qo e,b];exact h2
  ·have e':¬q.1=k:=λz=>e (h1.trans z);have b:valueAt (q::qs) k=valueAt qs k:=by simp[valueAt,j5,e']
   rw[qp e,b];exact ih
theorem KV.any(r:KV kvs vs)(k:κ):(kvs.any λkv=>decide (kv.1=k))=vs.any λkv=>decide (kv.1=k):=by
 unfold KV at r;induction r with
 |nil=>rfl
 |cons h t ih=>simp_all
def KV.HZ(r:KV kvs vs)(k:κ)(ry:RelV y u):
  KV (kvs.map λkv=>if kv.1=k then (kv.1,y) else kv) (vs.map λkv=>if kv.1=k then (kv.1,u) else kv):=by
 unfold KV at r⊢;induction r with
 |nil=>exact .nil
 | @cons p q ps qs h t ih=>
  rw[aY,aY];refine .cons ?_ ih;grind
def KV.put(r:KV kvs vs)(k:κ)(ry:RelV y u):KV (ň y) (stored vs k u):=by
 unfold putK stored;rw[r.any k];by_cases e:(vs.any λkv=>decide (kv.1=k))=true
 ·rw[af e,af e];exact r.HZ k ry
 ·rw[ah e,ah e];exact Paired.snoc r ⟨rfl,ry⟩
def KV.length{kvs:List (κ×V)}{vs:List (κ×Value)}(r:KV kvs vs):kvs.length=vs.length:=Paired.length r
end
theorem vd(r:RelV (kV k) u):(eU P w).is k u=true:=by
 cases k with
 |inl i=>obtain⟨t,e⟩:=(show ∃t,u=Value.int i t from r);subst e;exact YK P w i t
 |inr x=>obtain⟨t,e⟩:=(show ∃t,u=Value.str x t from r);subst e;exact YL P w x t
theorem aaX{P:Pg}{w:Wd}{ks:dX}:∀{us:LV},ba (ks.map kV) us→ItemsAre Âl ks us:=by
 induction ks with
 |nil=>
  intro _ r;rw[lE] at r;cases r;exact .nil
 |cons k ks ih=>
  intro _ r;rw[aY] at r;cases r with
  |cons h t=>exact .cons (vd h) (ih t)
abbrev KT(H:Hp):List (dX×V)→List (dX×Addr×Value)→Prop:=Paired λp q=>p.1=q.1∧H q.2.1=some (.tup (p.1.map kV))∧RelV p.2 q.2.2
theorem KT.val{H:Hp}{kvs:List (dX×V)}{xs:List (dX×Addr×Value)}(r:KT H kvs xs)(k:dX):jH (fJ kvs k) ((atKey xs k).map (·.2)):=by
 induction r with
 |nil=>exact True.intro
 | @cons p q ps qs h t ih=>
  obtain⟨h1,_,h2⟩:=h;by_cases e:p.1=k
  ·have e':q.1=k:=h1.symm.trans e;have b:atKey (q::qs) k=some q.2:=by simp[atKey,j5,e']
   rw[qo e,b];exact h2
  ·have e':¬q.1=k:=λz=>e (h1.trans z);have b:atKey (q::qs) k=atKey qs k:=by simp[atKey,j5,e']
   rw[qp e,b];exact ih
def KT.HZ{H:Hp}{kvs:List (dX×V)}{xs:List (dX×Addr×Value)}(r:KT H kvs xs)(k:dX){y:V}{u:Value}(ry:RelV y u):
  KT H (kvs.map λkv=>if kv.1=k then (kv.1,y) else kv) (xs.map (putAt k u)):=by
 induction r with
 |nil=>exact .nil
 | @cons p q ps qs h t ih=>
  rw[aY,aY];refine .cons ?_ ih;obtain⟨h1,h2,h3⟩:=h;unfold putAt;by_cases e:p.1=k
  ·rw[af e,af (h1.symm.trans e)];exact⟨h1,h2,ry⟩
  ·rw[ah e,ah (λz=>e (h1.trans z))];exact⟨h1,h2,h3⟩
def KT.put(r:KT H kvs xs)(k:dX)(hb:H b=some Âe)(ry:RelV y u):
  KT H (ň y) (storedH xs k b u):=by
 have e:(kvs.any λkv=>decide (kv.1=k))=(atKey xs k).isSome:=by
  rw[HX,(r.val k).HY,CM]
 unfold putK storedH;rw[e];by_cases q:(atKey xs k).isSome=true
 ·rw[af q,af q];exact r.HZ k ry
 ·rw[ah q,ah q];exact Paired.snoc r ⟨rfl,hb,ry⟩
def KT.keeps(r:KT H kvs xs)(ht:∀b ys,H b=some Åq→H' b=some Åq):KT H' kvs xs:=
 Paired.lG r λ_ _ z=>⟨z.1,ht _ _ z.2.1,z.2.2⟩
section
def Qs(ok:Į h)(e:Rd H a u):Às u:=e.ok ok
def wV(ok:Į h)(e:Rd H a č):kvs.length≤sizeLine∧(a==sysModules)=false∧∃vs,KV kvs vs∧h.DictOf Âl a vs:=
 show fm P w H h a č from Qs ok e
def Dy(ok:Į h)(e:H a=some č):kvs.length≤sizeLine∧(a==sysModules)=false∧∃vs,KV kvs vs∧h.DictOf Âl a vs:=wV ok (.inl e)
def wW{ks:dX}(ok:Į h)(e:H a=some (.tup (ks.map kV))):(tupleKind Âl).is h ks a:=by
 obtain⟨_,aj,r,o,h1,h2,n,h3⟩:=(show fm P w H h a (.tup (ks.map kV)) from ok a _ e);exact⟨o,aj.toArray,n,h1,h2,h3,by simpa using aaX r⟩
def wX{kvs:List (dX×V)}(ok:Į h)(e:Rd H a Âu):kvs.length≤sizeLine∧(a==sysModules)=false∧
  ∃xs,KT H kvs xs∧h.DictOfH Çc a xs:=by
 obtain⟨z,y,xs,r,o,es,ep,h1,h2,h3,h4,h5⟩:=(show fm P w H h a Âu from Qs ok e);refine⟨z,y,xs,r,o,es,ep,h1,h2,h3,h4,λx hx=>?_,h5⟩;have all:∀{l:List (dX×V)}{m:List (dX×Addr×Value)},KT H l m→∀x∈m,(tupleKind Âl).is h x.1 x.2.1:=by
  intro l m q;induction q with
  |nil=>intro x hx;exact nomatch hx
  | @cons p q ps qs hq t ih=>
   intro x hx;rcases bf.mp hx with e|hx
   ·subst e;exact wW ok (by rw[←hq.1];exact hq.2.1)
   ·exact ih x hx
 exact all r x hx
def aaY(ok:Į h)(e:H a=some Âu):kvs.length≤sizeLine∧(a==sysModules)=false∧
  ∃xs,KT H kvs xs∧h.DictOfH Çc a xs:=wX ok (.inl e)
end
def jK(H:Hp)(a:Addr)(y:V)(r:Option V):Prop:=
 (∃kvs k,Rd H a č∧y=kV k∧r=fJ kvs k)∨∃kvs k b,Rd H a Âu∧y=.ref b∧H b=some Âe∧r=fJ kvs k
def wY(H:Hp)(a:Addr)(y v:V)(H':Hp):Prop:=
 (∃kvs k,H a=some č∧y=kV k∧kvs.length<sizeLine∧H'=upd H a (.dK (ň v)))∨
 ∃kvs k b,H a=some Âu∧y=.ref b∧H b=some Âe∧kvs.length<sizeLine∧H'=upd H a (.dT (ň v))
def jK.k{H:Hp}{a:Addr}{kvs:List (Key×V)}{k:Key}(e:H a=some č):jK H a (kV k) (fJ kvs k):=.inl ⟨kvs,k,.inl e,rfl,rfl⟩
def jK.t{H:Hp}{a b:Addr}{kvs:List (dX×V)}{k:dX}(e:H a=some Âu)(eb:H b=some Âe):jK H a (.ref b) (fJ kvs k):=.inr ⟨kvs,k,b,.inl e,rfl,eb,rfl⟩
def wY.k{H:Hp}{a:Addr}{kvs:List (Key×V)}{k:Key}{v:V}(e:H a=some č)(hl:kvs.length<sizeLine):wY H a (kV k) v (Ŧ (.dK (ň v))):=.inl ⟨kvs,k,e,rfl,hl,rfl⟩
section
variable{X:Cx}{pins:bI}{σ:St}{H:Hp}{s:Sh}{a:Addr}{y v:V}{u r:Value}{o:Option V}{A:Around}{E:VP}
def Inv.big(I:Á H s):sysModules<s.heap.objs.size:=by
 have h:mainGlobals<s.heap.objs.size:=(I.mod.glob.keeps I.bk).lt;exact Gz Ø h
def aaZ(hu:A.units+1<cLine)(I:Á H s)(g:jK H a y Än)(ry:RelV y u)(h:∀w' s',Á H s'→RelV v w'→Q w' s'):
  wpAny Æ A (getItem Ě u) Q E s:=by
 rcases g with ⟨kvs,k,e,ey,l⟩|⟨kvs,k,b,e,ey,eb,l⟩
 ·subst ey;obtain⟨z,hd,vs,eZ,dd⟩:=wV I.ax e;obtain⟨w',hw,iS⟩:=jH.some_of (v:=v) (o:=valueAt vs k) (by rw[l];exact eZ.val k);exact wpAny_getItem_of (vd ry) dd.mapOf hw (h w' _ (I.tok _) iS)
 ·subst ey;cases (show u=Value.ref b from ry);obtain⟨z,hd,xs,eZ,dd⟩:=wX I.ax e;obtain⟨w',hw,iS⟩:=jH.some_of (v:=v) (o:=(atKey xs k).map (·.2)) (by rw[l];exact eZ.val k);obtain⟨p,hp,rh⟩:=x9.mp hw;refine wpAny_getItem_heap (CO hu) (wW I.ax eb) dd hp ?_;rw[rh];exact h w' _ (I.tok _) iS
def aa0(hu:A.units+1<cLine)(I:Á H s)(g:jK H a y o)(ry:RelV y u)(h:∀s',Á H s'→Q (.bool (!o.isSome)) s'):
  wpAny Æ A (compareOp .NotIn u Ě) Q E s:=by
 rcases g with ⟨kvs,k,e,ey,l⟩|⟨kvs,k,b,e,ey,eb,l⟩
 ·subst ey;obtain⟨z,hd,vs,eZ,dd⟩:=wV I.ax e;refine wpAny_notIn_of (vd ry) hd dd.mapOf ?_;rw[←(eZ.val k).HY,←l];exact h _ (I.tok _)
 ·subst ey;cases (show u=Value.ref b from ry);obtain⟨z,hd,xs,eZ,dd⟩:=wX I.ax e;refine wpAny_notIn_heap (CO hu) (wW I.ax eb) hd dd ?_;have q:=(eZ.val k).HY;rw[CM] at q;rw[←q,←l];exact h _ (I.tok _)
def Ia{h':Heap}{t':Nat}{ob:HO}(I:Á H s)(mu:tG (H a))(hs:Heap.SameBut a s.heap h')(he:∃q,h'.get? a=some q)(new:Ϻ (Ŧ ob) h' a ob):
  Inv X pins σ (Ŧ ob) {s with heap:=h',toks:=t'}:=
 I.write (x:=a) (e:=a) mu Ą (λb q hb z=>(hs.2 b hb).trans z) he new
def Qt(z:kvs.length≤sizeLine)(hd:(a==sysModules)=false)(eZ:KV kvs vs)(dd:h'.DictOf Âl a vs):
  fm P w H' h' a č:=⟨z,hd,vs,eZ,dd⟩
def aa1{H':Hp}{Q:Unit→Shared→Prop}(hu:A.units+1<cLine)(I:Á H s)(g:wY H a y v H')(ry:RelV y u)(rv:RelV v r)(h:∀s',Á H' s'→Q () s'):
  wpAny Æ A (setItem Ě u r) Q E s:=by
 rcases g with ⟨kvs,k,e,ey,l,eH⟩|⟨kvs,k,b,e,ey,eb,l,eH⟩
 ·subst ey eH;obtain⟨z,hd,vs,eZ,dd⟩:=Dy I.ax e;have hz:vs.length≤sizeLine:=by rw[←eZ.length];exact z
  have hl:(ň v).length≤sizeLine:=by have:=AQ kvs k v;omega
  refine wpAny_setItem_pairs (hsz:=hz) (vd ry) dd λh' rM hs=>h _ ?_;have he:∃q,h'.get? a=some q:=let ⟨q,_,_,hq,_⟩:=rM;⟨q,hq⟩;exact Ia I (by rw[e];exact True.intro) hs he (Qt hl hd (eZ.put k rv) rM)
 ·subst ey eH;cases (show u=Value.ref b from ry);obtain⟨z,hd,xs,eZ,dd⟩:=aaY I.ax e;have hz:xs.length≤sizeLine:=by rw[←Paired.length eZ];exact z
  have hl:(ň v).length≤sizeLine:=by have:=AQ kvs k v;omega
  refine wpAny_setItem_heap (hsz:=hz) (CO hu) (wW I.ax eb) dd λh' rM hs=>h _ ?_;obtain⟨q,es,ep,hq,h2,h3,h4,_,h5⟩:=rM;refine Ia I (by rw[e];exact True.intro) hs ⟨q,hq⟩ ⟨hl,hd,_,(eZ.put k eb rv).keeps λc ys ec=>?_,q,es,ep,hq,h2,h3,h4,h5⟩;rw[au (OW ec e (λz=>nomatch z))];exact ec
end
section
variable{X:Cx}{pins:bI}{σ:St}{H:Hp}{s:Sh}{a:Addr}{kvs:List (Key×V)}{k:Key}{u:Value}{A:Around}{E:VP}
end
def Qu(i:Expr):Prop:=∀ov iv,subscripted i false ov iv=operate [ov,iv] (getItem ov iv)
def aa2{prog:Pg}{w:Wd}{A:Around}{E:VP}{s:Sh}{env:Env}{i5 uL:Expr}{pos:Pos}{T id:String}{Q:VP}(hl:typeLookup (.type T) "__getitem__"=pure (some ό)) (hs:Qu uL)(h:wpAny Ð A (eval i5 env) (λo s₁=>wpAny Ð A (eval uL env) (λi s₂=>s₂.TypeIs o T∧wpAny Ð A (getItem o i) Q E s₂) E s₁) E s):
  wpAny Ð A (eval (.Subscript i5 uL pos) env) Q E s:=by
 refine Subscript_ (i6 h (λo s₁ h₁=>i6 h₁ (λi s₂ h₂=>?_) λ_ _ x=>x) λ_ _ x=>x);obtain⟨hT,h₂⟩:=h₂;unfold subscriptTail;refine aP ?_;rw[getitemInPython_of_ne hT.not_modules];refine aP (wpAny_specialOf hT hl ?_);have fin:wpAny Ð A (subscripted uL false o i) (λr s₃=>wpAny Ð A (letTemporaryGo i5 o r >>= λ_=>pure r) Q E s₃) E s₂:=by
  rw[hs o i];exact wpAny_operating (i6 h₂ (λr s₃ h₃=>aP (wpAny_letTemporaryGo (c7 h₃))) λ_ _ x=>x)
 first
  |exact c7 (aP fin)
  |exact aP (c7 (aP fin))
  |exact aP fin
def aa3(I:Á H s)(g:jK H a y o):s.TypeIs Ě "dict":=by
 rcases g with ⟨kvs,k,e,_,_⟩|⟨kvs,k,b,e,_,_,_⟩
 ·obtain⟨_,_,vs,_,dd⟩:=wV I.ax e;exact dd.typeIs
 ·obtain⟨_,_,xs,_,dd⟩:=wX I.ax e;exact dd.typeIs
def Qv(td ty:TE):TE:=λσ H Q=>td σ H λx H1=>ty σ H1 λy H2=>∃a v,x=.ref a∧jK H2 a y Än∧Q v H2
def aa4(ty td:TE):TE:=λσ H Q=>ty σ H λy H1=>td σ H1 λx H2=>∃a o,x=.ref a∧jK H2 a y o∧Q (.bl (!o.isSome)) H2
def aa5(td ty tv:TE):TS:=λD σ H=>tv σ H λv H1=>td σ H1 λx H2=>ty σ H2 λy H3=>∃a H4,x=.ref a∧wY H3 a y v H4∧D.nx σ H4
section
def Qw(hu:X.A.units+1<cLine)(ho:PE X o td)(hi:PE X i ty)(hs:Qu i):PE X (.Subscript o i pos) (Qv td ty):=by
 show Ô;refine aa2 PySem.F.slot_dict_getitem.lookup hs (aL (ho pins s σ H _ I h) λu s1 ⟨x,H1,I1,rx,q1⟩=>aL (hi pins s1 σ H1 _ I1 q1) λiv s2 ⟨y,H2,I2,ry,a,v,ex,g,q2⟩=>?_);subst ex;obtain rfl:u=Value.ref a:=rx;exact⟨aa3 I2 g,aaZ hu I2 g ry λw' s3 I3 iS=>⟨v,H2,I3,iS,q2⟩⟩
def aa6(hu:X.A.units+1<cLine)(hi:PE X i ty)(ho:PE X o td):PC X .NotIn i o (aa4 ty td):=by
 show Ô;refine aL (hi pins s σ H _ I h) λiv s1 ⟨y,H1,I1,ry,q1⟩=>aL (ho pins s1 σ H1 _ I1 q1) λu s2 ⟨x,H2,I2,rx,a,ov,ex,g,q2⟩=>?_;subst ex;obtain rfl:u=Value.ref a:=rx;exact aa0 hu I2 g ry λs3 I3=>⟨.bl (!ov.isSome),H2,I3,rfl,q2⟩
def Ib(hu:X.A.units+1<cLine)(ho:PE X o td)(hi:PE X i ty)(hv:PE X i5 tv)(hs:swapsWith i5 (some (.Subscript o i kU)) pos.line X.env=pure false):
  PS X (.Assign [.Subscript o i kU] i5 pos) (aa5 td ty tv):=by
 intro pins s σ H D I h;refine wpAny_Assign_Subscript (aL (hv pins s σ H _ I h) λr s1 ⟨v,H1,I1,rv,q1⟩=>aL (ho pins s1 σ H1 _ I1 q1) λu s2 ⟨x,H2,I2,rx,q2⟩=>aL (hi pins s2 σ H2 _ I2 q2) λiv s3 ⟨y,H3,I3,ry,a,H4,ex,g,q3⟩=>?_) hs;subst ex;obtain rfl:u=Value.ref a:=rx;exact aa1 hu I3 g ry rv λs4 I4=>⟨σ,H4,I4,q3⟩
end
def aa7{P:Pg}{w:Wd}{H:Hp}(h:Heap)(hb:sysModules<h.objs.size):fm P w H (h.push {cls:=.type "dict",data:=.dict #[]}) h.objs.size Àp:=
 ⟨dQ _,wg.mpr (dJ (fU hb)),[],.nil,Xu h⟩
def aa8:TE:=λ_ H Q=>∀p,H p=none→Q Ģ (upd H p Àp)
section
def Dz:PE X (.Dict [] [] pos) aa8:=λpins s σ H Q I h=>
 wpAny_Dict_empty ⟨.ref s.heap.objs.size,_,I.laid (a:=s.heap.objs.size) (o:=.dK []) (t':=s.toks) (λ_ _ q=>dh _ q) (bO _) (aa7 s.heap I.big),rfl,h _ ħ⟩
end
def tX(kvs i4:List (Key×V)):List (Key×V):=i4.foldl (λacc kv=>putK acc kv.1 kv.2) kvs
theorem KV.merge:∀{i4:List (Key×V)}{rs:List (Key×Value)}{kvs:List (Key×V)}{vs:List (Key×Value)},KV i4 rs→KV kvs vs→KV (tX kvs i4) (merged vs rs):=by
 intro i4 rs kvs vs r;unfold KV at r;induction r generalizing kvs vs with
 |nil=>intro q;exact q
 | @cons p q ps qs h t ih=>
  intro r0;have e:KV (putK kvs p.1 p.2) (stored vs q.1 q.2):=by
   have:=r0.put p.1 h.2;simp_all
  exact ih e
theorem aa9:∀(i4 kvs:List (Key×V)),(tX kvs i4).length≤kvs.length+i4.length:=by
 intro i4;induction i4 with
 |nil=>
  intro kvs;show kvs.length≤kvs.length+0;omega
 |cons p r ih=>
  intro kvs;have h1:=ih (putK kvs p.1 p.2);have h2:=AQ kvs p.1 p.2;show(tX (putK kvs p.1 p.2) r).length≤_;rw[cZ];omega
structure M1(X:Cx)(o:Expr)(m:Str)(iP:Pos)(e:Expr)(fG:Pos):Prop where
 base:attributeBase o m X.env Äd=eval o X.env
 c8:((backTo fG (starEach [e] X.env)).all (λx=>!x.1)&&(backToKw fG ϲ).all (λx=>x.1.isSome)
  &&decide (([e]:List Expr).length+([]:List Keyword).length+(if ([]:List Keyword).isEmpty then 0 else 1)<30))=true
 line:(iP.endLine==fG.line)=true
 trees:backTo fG (starEach [e] X.env)=[(false,eval e X.env)]
structure M2(X:Cx)(o:Expr)(m:Str)(iP:Pos)(e f:Expr)(fG:Pos):Prop where
 base:attributeBase o m X.env Äd=eval o X.env
 c8:((backTo fG (starEach [e,f] X.env)).all (λx=>!x.1)&&(backToKw fG ϲ).all (λx=>x.1.isSome)
  &&decide (([e,f]:List Expr).length+([]:List Keyword).length+(if ([]:List Keyword).isEmpty then 0 else 1)<30))=true
 line:(iP.endLine==fG.line)=true
 trees:backTo fG (starEach [e,f] X.env)=[(false,eval e X.env),(false,eval f X.env)]
def DA(H:Hp)(a:Addr):Prop:=(∃kvs,Rd H a č)∨∃kvs,Rd H a Âu
def Ic(I:Á H s)(d:DA H a):
  s.TypeIs Ě "dict"∧(∀b,Value.ref a=.ref b→∃ob,s.heap.get? b=some ob∧ob.dict=none)∧(a==sysModules)=false:=by
 rcases d with ⟨kvs,e⟩|⟨kvs,e⟩
 ·obtain⟨_,hd,vs,_,dd⟩:=wV I.ax e;refine⟨dd.typeIs,λb q=>?_,hd⟩;cases q;obtain⟨ob,_,_,h1,h2,_⟩:=dd;exact⟨ob,h1,h2.2.1⟩
 ·obtain⟨_,hd,xs,_,dd⟩:=wX I.ax e;refine⟨dd.typeIs,λb q=>?_,hd⟩;cases q;obtain⟨ob,_,_,h1,h2,_⟩:=dd;exact⟨ob,h1,h2.2.1⟩
section
variable{X:Cx}{pins:bI}{σ:St}{H:Hp}{s:Sh}{a:Addr}{y d:V}{u r:Value}{o:Option V}{A:Around}{E:VP}
def aba(hu:A.units+1<cLine)(I:Á H s)(g:jK H a y o)(ry:RelV y u)(h:∀w' s',Á H s'→RelV (o.getD .aJ) w'→Q w' s'):
  wpAny Æ A (call (.builtin "dict.get") [.ref a,u]) Q E s:=by
 rcases g with ⟨kvs,k,e,ey,l⟩|⟨kvs,k,b,e,ey,eb,l⟩
 ·subst ey;obtain⟨z,hd,vs,eZ,dd⟩:=wV I.ax e;refine CU PySem.F.slot_dict_get dd.typeIs PySem.F.entry_dict_get (PySem.F.args_dict_get_2 _ _) (meets_dict_get ā a (vd ry) hd) ⟨_,dd.mapOf,h _ _ (I.tok _) ?_⟩;rw[l];exact(eZ.val k).getD rfl
 ·subst ey;cases (show u=Value.ref b from ry);obtain⟨z,hd,xs,eZ,dd⟩:=wX I.ax e;refine CU PySem.F.slot_dict_get dd.typeIs PySem.F.entry_dict_get (PySem.F.args_dict_get_2 _ _) (meetsH_dict_get Çy a b hd) ⟨CO hu,k,xs,wW I.ax eb,dd,h _ _ (I.tok _) ?_⟩;rw[l];exact(eZ.val k).getD rfl
def abb(hu:A.units+1<cLine)(I:Á H s)(g:jK H a y o)(ry:RelV y u)(rd:RelV d r)(h:∀w' s',Á H s'→RelV (o.getD d) w'→Q w' s'):
  wpAny Æ A (call (.builtin "dict.get") [.ref a,u,r]) Q E s:=by
 rcases g with ⟨kvs,k,e,ey,l⟩|⟨kvs,k,b,e,ey,eb,l⟩
 ·subst ey;obtain⟨z,hd,vs,eZ,dd⟩:=wV I.ax e;refine CU PySem.F.slot_dict_get dd.typeIs PySem.F.entry_dict_get (PySem.F.args_dict_get_3 _ _ _) (meets_dict_get_default ā a (vd ry) hd r) ⟨_,dd.mapOf,h _ _ (I.tok _) ?_⟩;rw[l];exact(eZ.val k).getD rd
 ·subst ey;cases (show u=Value.ref b from ry);obtain⟨z,hd,xs,eZ,dd⟩:=wX I.ax e;refine CU PySem.F.slot_dict_get dd.typeIs PySem.F.entry_dict_get (PySem.F.args_dict_get_3 _ _ _) (meetsH_dict_get_default Çy a b hd r) ⟨CO hu,k,xs,wW I.ax eb,dd,h _ _ (I.tok _) ?_⟩;rw[l];exact(eZ.val k).getD rd
end
def Qx(td ty:TE):TE:=λσ H Q=>td σ H λx H1=>∃a,x=.ref a∧DA H1 a∧ty σ H1 λy H2=>∃o,jK H2 a y o∧Q (o.getD .aJ) H2
def abc(td ty tx:TE):TE:=λσ H Q=>td σ H λx H1=>∃a,x=.ref a∧DA H1 a∧ty σ H1 λy H2=>tx σ H2 λz H3=>∃o,jK H3 a y o∧Q (o.getD z) H3
section
def abd(hu:X.A.units+1<cLine)(ho:PE X o td)(he:ϝ ty)(m:M1 X o "get" iP e fG):PE X (.Call (.Attribute o "get" iP) [e] [] fG) (Qx td ty):=by
 show Ô;refine GA m.base m.c8 m.line PySem.F.plainAttrs_dict PySem.F.slot_dict_get PySem.F.type_dict_get (aL (ho pins s σ H _ I h) λu s1 ⟨x,H1,I1,rx,a,ex,d,q1⟩=>?_);subst ex;obtain rfl:u=Value.ref a:=rx;obtain⟨t1,t2,_⟩:=Ic I1 d;refine Çs;rw[m.trees];refine Gv rfl (On (CD (aL (he pins s1 σ H1 _ I1 q1) λiv s2 ⟨y,H2,I2,ry,ov,g,q2⟩=>Oi ?_)));exact aba hu I2 g ry λw' s3 I3 iS=>⟨_,H2,I3,iS,q2⟩
def abe(hu:X.A.units+1<cLine)(ho:PE X o td)(he:ϝ ty)(hf:PE X f tx)(m:M2 X o "get" iP e f fG):PE X (.Call (.Attribute o "get" iP) [e,f] [] fG) (abc td ty tx):=by
 show Ô;refine GA m.base m.c8 m.line PySem.F.plainAttrs_dict PySem.F.slot_dict_get PySem.F.type_dict_get (aL (ho pins s σ H _ I h) λu s1 ⟨x,H1,I1,rx,a,ex,d,q1⟩=>?_);subst ex;obtain rfl:u=Value.ref a:=rx;obtain⟨t1,t2,_⟩:=Ic I1 d;refine Çs;rw[m.trees];refine Gv rfl (On (CD (aL (he pins s1 σ H1 _ I1 q1) λiv s2 ⟨y,H2,I2,ry,q2⟩=>
  CD (aL (hf pins s2 σ H2 _ I2 q2) λfv s3 ⟨z,H3,I3,rz,ov,g,q3⟩=>Oi ?_))))
 exact abb hu I3 g ry rz λw' s4 I4 iS=>⟨_,H3,I4,iS,q3⟩
end
section
variable{X:Cx}{pins:bI}{σ:St}{H:Hp}{s:Sh}{a:Addr}{kvs:List (Key×V)}{A:Around}{E:VP}
end
section
variable{X:Cx}{pins:bI}{σ:St}{H:Hp}{s:Sh}{a:Addr}{y:V}{u:Value}{A:Around}{E:VP}
end
end L2
namespace L2
open PySem PySem.Spec PyProof.Rows
def abf:typeLookup (.type "list") "keys"=pure none:=am_miss_of_fast (by first|decide+kernel|rfl)
def Qy:entryFor table "dict.update.loop"=some Builtin.«dict.update.loop»:=entryFor_of_tree (by kernel_rfl)
def AR:plainId "dict.update.loop"=true:=by decide+kernel
section
def abg{s:Sh}{a:Addr}{o:Obj}{xs:Array Value}{k:Nat}{Q:Option Value→Shared→Prop}(hx:s.heap.get? a=some o)(hc:o.cls=.type "list")(tY:o.data=.seq xs k)(hd:o.dict=none)(hA:A.handled=none)(h:∀h' tk,(∀b ob,s.heap.get? b=some ob→h'.get? b=some ob)→Q none {s with heap:=h',toks:=tk}):wpAny Ð A (getAttr? Ě "keys") Q E s:=by
 obtain⟨c,yj,dat,sl⟩:=o;simp only at hc tY hd;subst hc tY hd;obtain⟨hp,g,d,tk,os⟩:=s;have hT:∀k7,(⟨hp,g,d,k7,os⟩:Sh).TypeIs Ě "list":=λ_=>⟨_,hx,rfl⟩;have abh:=abf;have abi:(["__module__","__name__","__qualname__","__doc__","__annotations__"]:LS).contains "keys"=false:=by decide+kernel
 have hsz:("keys":Str).length+100≤sizeLine:=by first|size_fits|decide+kernel
 have f1:=sub_AttributeError;have f3:=PySem.F.slot_list_getattribute.lookup;have f4:=PySem.F.slot_list_getattribute.bind Ě;have f5:=am_list_getattr_none;unfold getAttr? getAttrBy? getAttrBy
 repeat (any_goals (first|assumption|exact hT _|((with_reducible show wpAny _ _ (call (Value.builtin "list.__getattribute__") _ _) _ _ _);refine Gw PySem.F.slot_list_getattribute (hT _) am_entry_list_getattribute (PySem.F.args_list_getattribute_2 _ _) (meets_getattribute_miss_list a xs k sl "keys" _ abh abi hsz) ⟨hx,hA,λh' k7 e ve=>?_⟩)|wp_step))
 obtain⟨t',u',he⟩:=ve.there;show wpAny _ _ (getattributeRaised _ _ _ _ _ _ _) _ _ _;unfold getattributeRaised
 repeat (any_goals (first|assumption|wp_step))
 all_goals first|exact h _ _ ve.keeps|(dsimp only;repeat (any_goals (first|assumption|exact h _ _ ve.keeps|wp_step)))
theorem abj{α:Type}{R:Result→Shared→Prop}{S I l:Addr}{items:Array Value}{res:Value}{DD:Heap→List α→Prop}{G:Heap→α→Value→Value→Prop}{st:List α→α→List α}(hh:A.handled=none)(hlI:l≠I)(AS:S<I)(hSl:S≠l)(dk:∀h h' acc,DD h acc→(∀b o,b≤S→h.get? b=some o→h'.get? b=some o)→DD h' acc) (gk:∀h h' q u y,G h q u y→(∀b o,b<S→h.get? b=some o→h'.get? b=some o)→G h' q u y)(ds:∀(s:Sh)acc q u y(Q:Unit→Shared→Prop)E,G s.heap q u y→DD s.heap acc→acc.length≤sizeLine→(∀h' tk,DD h' (st acc q)→Heap.SameBut S s.heap h'→Q () {s with heap:=h',toks:=tk})→wpAny Ð A.in1 (dictSet S u y) Q E s)(sl:∀acc q,(st acc q).length≤acc.length+1):
  ∀(bG:List α)(i:Nat)(acc:List α)(ix:Int)(t:Tok)(s:Sh),items.size=i+bG.length→acc.length+bG.length≤sizeLine→
   (∀(j:Nat)(q:α),bG[j]? =some q→∃(b:Addr)(u y:Value),items[i+j]? =some (.ref b)∧b<S∧IsTup s.heap b #[u,y]∧G s.heap q u y)→
   s.heap.IsListIter I l i→s.heap.IsList l items→DD s.heap acc→
   (∀h' tk,DD h' (bG.foldl st acc)→(∀b o,b≠S→b≠I→s.heap.get? b=some o→h'.get? b=some o)→R (.ok (.ret res)) {s with heap:=h',toks:=tk})→
   codeAny Ð A (.builtin "dict.update.loop" ⟨[.ref S,.ref I,.int ix t,res],[]⟩) R s:=by
 intro bG;induction bG with
 |nil=>
  intro i acc ix t s hsz DB ht mq hl hm hR;refine Ow Qy ?_;rw[Ox AR _];refine aP (wpAny_pyNext_list_end (A:=A.in1) hh mq hl (by first|exact aoG (Cv hsz)|(simp at hsz;simp;omega)) λh' he=>?_);exact aP (c7 (c7 (hR h' s.toks (dk _ _ _ hm λb o hb e=>he b o (fU (oQ hb AS)) e) λb o _ hb e=>he b o hb e)))
 |cons q bG ih=>
  intro i acc ix t s hsz DB ht mq hl hm hR;obtain⟨b,u,y,hb,hbS,abo,hk⟩:=ht 0 q rfl;rw[cZ] at hsz DB;refine Ow Qy ?_;rw[Ox AR _];refine aP (wpAny_pyNext_list_item (x:=.ref b) mq hl (by simpa using hb) λh1 abp AU=>?_);have k1:∀b o,b≤S→s.heap.get? b=some o→h1.get? b=some o:=λb o hb e=>AU.extBut b o (fU (oQ hb AS)) e;obtain⟨o,ho,hc,n,hd⟩:=abo.extBut AU.extBut (fU (Gz hbS AS));refine aP (W7 ?_);refine aP (wpAny_tryCatch ?_);unfold Builtin.Dict.pairItems;refine aP (wpAny_typeOf (T:="tuple") ⟨o,ho,hc⟩ ?_);rw[af (by first|decide|rfl|simp)];refine aP (W9 ho hd (c7 ?_));refine W7 (ds _ _ _ _ _ _ _ (gk _ _ _ _ _ hk λb o hb e=>k1 b o (sY hb) e) (dk _ _ _ hm k1) Ä λh2 tk2 DC rF=>?_);have z:=sl acc q;refine c7 ⟨GC AR _,ih (i+1) (st acc q) (ix+1) 0 _ (show items.size=i+1+bG.length by omega) Ä Çt (abp.at λo' e=>rF.extBut I o' (sX AS) e) ((hl.extBut AU.extBut hlI).extBut rF.extBut (dJ hSl)) DC λh' tk oU k=>hR h' tk oU λc oc h3 h4 e=>k c oc h3 h4 (rF.extBut c oc h3 (AU.extBut c oc h4 e))⟩;obtain⟨b',u',y',oY,Ie,abq,kj⟩:=ht (j+1) q' (by simpa using e);exact⟨b',u',y',by rw[show i+1+j=i+(j+1) by omega];exact oY,Ie,(abq.extBut AU.extBut (fU (Gz Ie AS))).extBut rF.extBut (fU Ie),gk _ _ _ _ _ kj λb o hb e=>rF.extBut b o (fU hb) (k1 b o (sY hb) e)⟩
def Qz{s:Sh}{l:Addr}{ol:Obj}{items:Array Value}{n:Nat}{α:Type}{prs:List α}{Q:VP}{DD:Heap→List α→Prop}{G:Heap→α→Value→Value→Prop}{st:List α→α→List α}(hh:A.handled=none)(hl:s.heap.get? l=some ol)(hc:ol.cls=.type "list")(hd:ol.dict=none)(tY:ol.data=.seq items n) (hsz:items.size=prs.length) (DB:prs.length≤sizeLine)(d0:DD (s.heap.push {cls:=.type "dict",data:=.dict #[]}) [])(dk:∀h h' acc,DD h acc→(∀b o,b≤s.heap.objs.size→h.get? b=some o→h'.get? b=some o)→DD h' acc) (gk:∀h h' q u y,G h q u y→(∀b o,b<s.heap.objs.size→h.get? b=some o→h'.get? b=some o)→G h' q u y)(ds:∀(s0:Sh)acc q u y(Q:Unit→Shared→Prop)E,G s0.heap q u y→DD s0.heap acc→acc.length≤sizeLine→(∀h' tk,DD h' (st acc q)→Heap.SameBut s.heap.objs.size s0.heap h'→Q () {s0 with heap:=h',toks:=tk})→wpAny Ð A.in1.in1 (dictSet s.heap.objs.size u y) Q E s0)(sl:∀acc q,(st acc q).length≤acc.length+1)(ht:∀(j:Nat)(q:α),prs[j]? =some q→∃(b:Addr)(u y:Value),items[j]? =some (.ref b)∧IsTup s.heap b #[u,y]∧G s.heap q u y)(h:∀h' tk,DD h' (prs.foldl st [])→(∀b o,s.heap.get? b=some o→h'.get? b=some o)→Q Ķ {s with heap:=h',toks:=tk}):
  wpAny Ð A (call (.type "dict") [.ref l]) Q E s:=by
 refine callType_codes (Q₁:=λobj s₁=>obj=.ref s.heap.objs.size∧s₁={s with heap:=s.heap.push {cls:=.type "dict",data:=.dict #[]}}) PySem.F.kt_called_dict (PySem.F.kt_typeCall_dict_1 _) PySem.F.entry_dict_init (kt_code_dict_new _ ⟨rfl,rfl⟩) ?_;rintro obj s₁ ⟨rfl,rfl⟩;have QA:(s.heap.push {cls:=.type "dict",data:=.dict #[]}).DictOf Äo s.heap.objs.size []:=Xu s.heap;have k0:∀b o,s.heap.get? b=some o→(s.heap.push {cls:=.type "dict",data:=.dict #[]}).get? b=some o:=λb o e=>dh _ e;refine⟨QA.typeIs,PySem.F.args_dict_init_2 _ _,?_⟩;unfold Builtin.«dict.__init__»;refine aP ?_;unfold Builtin.Dict.selfAndRest;refine aP (wpAny_notOrdered_dict QA.typeIs ?_);show wpAny _ _ (pure (s.heap.objs.size,[Value.ref l])) _ _ _;refine c7 ?_;show wpAny _ _ (Builtin.Dict.updateFrom "dict.__init__" s.heap.objs.size Är [] .none) _ _ _;unfold Builtin.Dict.updateFrom;refine aP (wpAny_typeOf (T:="list") ⟨ol,k0 _ _ hl,hc⟩ ?_);rw[af Ò];refine aP (abg (k0 _ _ hl) hc tY hd hh λh1 tk1 DE=>?_);rw[af (show(none:Option Value).isNone=true from rfl)];refine aP (wpAny_rule ?_);have eW:h1.IsList l items:=⟨ol,DE _ _ (k0 _ _ hl),hc,n,tY⟩;have Ig:s.heap.objs.size<h1.objs.size:=by
  have e:(s.heap.push {cls:=.type "dict",data:=.dict #[]}).get? s.heap.objs.size=some {cls:=.type "dict",data:=.dict #[]}:=g9 _ rfl;exact di (DE _ _ e)
 refine aP (Xj eW ?_);have k2:∀b o,h1.get? b=some o→(h1.push {cls:=.type "list_iterator",data:=.fields #[.ref l,.int 0 0]}).get? b=some o:=λb o e=>dh _ e;have bJ:l<s.heap.objs.size:=di hl;have hhS:=Gz bJ Ig;have kk:∀b o,s.heap.get? b=some o→(h1.push {cls:=.type "list_iterator",data:=.fields #[.ref l,.int 0 0]}).get? b=some o:=λb o e=>k2 _ _ (DE _ _ (k0 _ _ e));have g8:=abj (prog:=prog) (w:=w) (A:=A.in1) (R:=wants (λr s₂=>r=.none∧Q Ķ s₂) E) (S:=s.heap.objs.size) (I:=h1.objs.size) (l:=l) (items:=items) (res:=Value.none) hh
  (fU hhS) Ig (sX bJ) dk gk ds sl prs 0 [] 0 0
  {s with heap:=h1.push {cls:=.type "list_iterator",data:=.fields #[.ref l,.int 0 0]},toks:=tk1} (by rw[hsz,wk]) (by rw[qU,wk];exact DB)
  (λj q e=>by
   obtain⟨b,u,y,e1,e2,e3⟩:=ht j q e;exact⟨b,u,y,by rw[wk];exact e1,e2.lt,e2.keeps λc o z=>kk _ _ z,gk _ _ _ _ _ e3 λc o _ z=>kk _ _ z⟩)
  ⟨_,g9 _ rfl,rfl,rfl⟩ (eW.at λo e=>k2 _ _ e) (dk _ _ _ d0 λb o _ e=>k2 _ _ (DE _ _ e))
  (λh' tk oU k=>⟨rfl,h h' tk oU λb o e=>k b o (fU (di e)) (fU (Gz (di e) Ig)) (kk _ _ e)⟩)
 first
  |exact c7 ⟨GC AR _,g8⟩
  |exact aP (c7 (c7 ⟨GC AR _,g8⟩))
end
section
def abu{pins:bI}{σ:St}{H:Hp}{s:Sh}(I:Á H s):∀{ps:LA}{kvs:List (Key×V)},Paired (λp kv=>bu X.K H p [kV kv.1,kv.2]) ps kvs→
  ∃prs:List (Key×Value),KV kvs prs∧prs.length=ps.length∧∀(j:Nat)(q:Key×Value),prs[j]? =some q→∃(b:Addr)(u:Value),ps[j]? =some b∧IsTup s.heap b #[u,q.2]∧rj q.1 u=true:=by
 intro ps kvs h0;induction h0 with
 |nil=>exact⟨[],.nil,rfl,λj q e=>by simp at e⟩
 | @cons p kv ps kvs h t ih=>
  obtain⟨prs,r,hl,hp⟩:=ih;obtain⟨aj,rv,ht,_⟩:=I.tuple h;obtain⟨u,y,ei,ru,ry⟩:=vals2 rv;subst ei;refine⟨(kv.1,y)::prs,.cons ⟨rfl,ry⟩ r,by rw[cZ,cZ,hl],λj q e=>?_⟩;cases j with
  |zero=>
   have e':(kv.1,y)=q:=aO e;subst e';exact⟨p,u,rfl,ht,vd (P:=X.prog) (w:=X.w) ru⟩
  |succ j=>
   obtain⟨b,u',e1,e2,e3⟩:=hp j q (by simpa using e);exact⟨b,u',by simpa using e1,e2,e3⟩
theorem QB{ps:LA}:∀{us:LV},ba Áx us→us=ps.map Value.ref:=by
 induction ps with
 |nil=>
  intro us r;rw[lE] at r;cases r;rfl
 |cons p ps ih=>
  intro us r;rw[aY] at r;cases r with
  |cons h t=>
   cases h;rw[aY,←ih t]
def abv(Ih:X.calm=true):k8 X (.type "dict") (λxs H Q=>∃(a:Addr)(ps:LA)(kvs:List (Key×V)),xs=[.ref a]∧Àt a Áx∧Paired (λp kv=>bu X.K H p [kV kv.1,kv.2]) ps kvs∧
  ∀p,H p=none→Q Ģ (upd H p Ål)):=by
 intro pins s σ H xs us Q I r q;obtain⟨a,ps,kvs,ex,hq,hp,q⟩:=q;subst ex;obtain⟨u,eu,rx⟩:=vals1 r;subst eu;cases rx;obtain⟨aj,rv,pl,hz⟩:=I.list hq;have ei:=QB rv;subst ei;rw[aA] at hz;obtain⟨prs,eZ,hl,gO⟩:=abu I hp;obtain⟨o,n,ho,hc,hd,tY⟩:=pl;refine Qz (prs:=prs) (DD:=λh=>h.DictOf ā s.heap.objs.size) (G:=λ_ q u y=>y=q.2∧rj q.1 u=true) (st:=λa q=>stored a q.1 q.2) (I.ok.hd Ih) ho hc hd tY (by simp[hl]) Ä (Xu s.heap) (λ_ _ _ d k=>d.at λo e=>k _ o (bO _) e) (λ_ _ _ _ _ g _=>g) (λ_ _ _ _ _ _ _ g d hz k=>g.1▸ wpAny_dictSet_pairs (knd:=eU X.prog X.w) g.2 d (λh'=>k h' _) hz) (λa q=>stored_length_le a q.1 q.2) Çt λh' tk oU k=>?_
 ·obtain⟨b,u,e1,e2,e3⟩:=gO j q' e;exact⟨b,u,_,by simp_all,e2,rfl,e3⟩
 ·have hm:(s.heap.objs.size==sysModules)=false:=wg.mpr (sX I.big);have cJ:(tX [] kvs).length≤sizeLine:=by
   refine gW (aa9 kvs []) ?_;rw[qU,wk,eZ.length,hl];omega
  exact⟨.ref s.heap.objs.size,ě Ål,I.laid (t':=tk) k (bO _) (show fm X.prog X.w _ _ _ Ål from⟨cJ,hm,merged [] prs,KV.merge eZ .nil,oU⟩),rfl,q _ ħ⟩
end
end L2
namespace L2
open PySem PySem.Spec PyProof.Rows
section
variable{X:Cx}{pins:bI}{σ:St}{H:Hp}{s:Sh}{h':Heap}
def Inv.abw{t':Nat}{ch:LA}(I:Á H s)(k:∀b o,b∉ch→s.heap.get? b=some o→h'.get? b=some o)(hf:∀b∈ch,ľ H b):Á H {s with heap:=h',toks:=t'}:=by
 have uU:∀b u,H b=some u→b∉ch:=λb u e z=>by
  have q:=(hf b z).1;simp_all
 refine I.step (g':=s.gens) (d':=s.drawn) (ch:=ch) (λb hb=>⟨(hf b hb).2.2.2.1,(hf b hb).2.1,(hf b hb).2.2.2.2.1,(hf b hb).2.2.2.2.2⟩) (λb o _ _ hc e _=>k b o hc e) (λb o _ _ hc e _=>⟨o.slots,k b o hc e⟩)
  (λ_ _ _ _ n=>n) (λb o hc e=>⟨o,k b o hc e⟩) (λ_ _ e=>e) (λ_ _ _ e=>e) (λb ps e=>⟨#[],by rw[e];simp⟩) Åt (λb u e=>?_) I.bare
 ·obtain⟨o,es,ep,ho,r⟩:=hm;exact⟨o,es,ep,k _ o (λz=>(hf _ z).2.1 rfl) ho,r⟩
 ·refine(I.ax b u e).oR Ás (λ_ q=>q) λ_ _ q=>q;rcases hc with z|z
  ·rw[z];exact uU b u e
  ·exact uU c _ z
def Inv.abx{t':Nat}{ch:LA}{T:Addr}{ob:HO}(I:Á H s)(k:∀b o,b∉ch→s.heap.get? b=some o→h'.get? b=some o)(hf:∀b∈ch,ľ H b)(hT:s.heap.objs.size≤T)(new:Ϻ (ϛ ob) h' T ob):Á (ϛ ob) {s with heap:=h',toks:=t'}:=by
 have hn:H T=none:=I.ax.fresh hT;have uU:∀b u,H b=some u→b∉ch:=λb u e z=>by
  have q:=(hf b z).1;simp_all
 refine I.step (g':=s.gens) (d':=s.drawn) (ch:=ch) (λb hb=>⟨(hf b hb).2.2.2.1,(hf b hb).2.1,(hf b hb).2.2.2.2.1,(hf b hb).2.2.2.2.2⟩) (λb o _ _ hc e _=>k b o hc e) (λb o _ _ hc e _=>⟨o.slots,k b o hc e⟩)
  (λb o _ e n=>?_) (λb o hc e=>⟨o,k b o hc e⟩) (λb xs e=>?_) (λb o u e=>?_) (λb ps e=>⟨#[],?_⟩) Åt (λb u e=>?_) I.bare
 ·rw[au (fU (i8 (di e) hT))];exact n
 ·rw[au (eN e hn)];exact e
 ·rw[au (eN e hn)];exact e
 ·rw[au (eN e hn),e];simp
 ·obtain⟨o,es,ep,ho,r⟩:=hm;exact⟨o,es,ep,k _ o (λz=>(hf _ z).2.1 rfl) ho,r⟩
 ·by_cases hb:b=T
  ·subst hb;rw[ao] at e;cases e;exact new
  ·rw[au hb] at e;refine(I.ax b u e).oR Ás (λc q=>by rw[au Äe];exact q) λc xs q=>by rw[au Äe];exact q
   rcases hc with z|z
   ·rw[z];exact uU b u e
   ·exact uU c _ z
def Inv.lock(I:Á H s)(h:H d=some u)(mu:tG Çz):∃od,Á Åx s:=by
 have x:=I.ax d u h;have ex:∃od,s.heap.get? d=some od:=by
  cases u with
  |lst xs=>obtain⟨_,_,_,_,e⟩:=x;exact⟨_,e⟩
  |dK kvs=>obtain⟨_,_,_,_,o,_,_,e,_⟩:=x;exact⟨o,e⟩
  |dT kvs=>obtain⟨_,_,_,_,o,_,_,e,_⟩:=x;exact⟨o,e⟩
  |set S n=>obtain⟨o,_,_,_,e,_⟩:=x;exact⟨o,e⟩
  |ins C dx fs=>obtain⟨_,_,_,e,_⟩:=x;exact⟨_,e⟩
  |ext φ=>obtain⟨_,⟨_,e⟩,_⟩:=x;exact⟨_,e⟩
  |_=>exact False.elim mu
 obtain⟨od,e⟩:=ex;have new:Ϻ Åx s.heap d ϋ:=by
  refine⟨e,x.oR (λb v _ q=>q) (λb q=>?_) λb xs q=>?_⟩
  ·rw[au (λz=>by rw[z,h] at q;cases q;exact mu)];exact q
  ·rw[au (λz=>by rw[z,h] at q;cases q;exact mu)];exact q
 exact⟨od,I.write (x:=d) (e:=d) (t':=s.toks) (h':=s.heap) Ç Ą (λb v _ q=>q) ⟨od,e⟩ new⟩
def Inv.AV(I:Á H s)(h:H d=some u)(mu:tG Çz):∀o' u',X.wt d≠some (.ck o' u'):=λo' u' e=>by
 have q:=I.base.qd d o' u' e;rw[h] at q;cases q;exact mu
def Inv.unlock(I:Á H s)(h:H d=some ϋ)(hn:∀o' u',X.wt d≠some (.ck o' u')):Á (upd H d u) s:=by
 have yE:∀b o,H b=some o→(∀o' u',o≠ .ck o' u')→b≠d:=λb o e aQ z=>by
  grind
 have neN:∀b,H b=none→b≠d:=λb e z=>by rw[z,h] at e;cases e
 refine⟨I.ok,I.os,I.bare,⟨I.base.keep,I.base.slot,λb o e n hx=>?_,I.base.there,λb xs e=>?_,λb o x e=>?_,λb ps e=>?_⟩,I.loc,I.cell,?_,λx c e=>?_,λp hp=>?_,λb o e=>?_,I.len⟩
 ·rw[au (neN b Ϥ)];exact I.base.free b o e n hx
 ·have q:=I.base.tH b xs e;rw[au (yE b _ q (λ_ _ z=>nomatch z))];exact q
 ·have q:=I.base.qd b o x e;rw[au (λz=>by simp_all)];exact q
 ·obtain⟨m,q⟩:=I.base.tI b ps e;exact⟨m,by rw[au (yE b _ q (λ_ _ z=>nomatch z))];exact q⟩
 ·rw[au (neN _ I.free)];exact I.free
 ·rw[au (neN c Æu)];exact I.lH x c e
 ·obtain⟨e,n,r⟩:=I.pin p hp;exact⟨e,by rw[au (neN _ n)];exact n,r⟩
 ·by_cases hb:b=d
  ·rw[hb,ao] at e;cases e;rw[hb];obtain⟨_,x⟩:=I.ax d _ h;exact x.oR (λc v _ q=>q) (λc q=>by rw[au (yE c _ q (λ_ _ z=>nomatch z))];exact q) λc xs q=>by rw[au (yE c _ q (λ_ _ z=>nomatch z))];exact q
  ·rw[au hb] at e;exact(I.ax b o e).oR (λc v _ q=>q) (λc q=>by rw[au (yE c _ q (λ_ _ z=>nomatch z))];exact q) λc xs q=>by rw[au (yE c _ q (λ_ _ z=>nomatch z))];exact q
end
def aby(t:TS):TS:=λD σ H=>∃d u,H d=some u∧tG Çz∧∀od,t ⟨λσ' H'=>H' d=some ϋ∧D.nx σ' Ãc,λv H'=>H' d=some ϋ∧D.rt v Ãc,λσ' H'=>H' d=some ϋ∧D.bk σ' Ãc,λσ' H'=>H' d=some ϋ∧D.ct σ' Ãc⟩ σ Åx
def abz(t:TE):TE:=λσ H Q=>∃d u,H d=some u∧tG Çz∧∀od,t σ Åx λv H'=>H' d=some ϋ∧Q v Ãc
section
def QC{st:Stmt}{t:TS}(h:PS X st t):PS X st (aby t):=by
 intro pins s σ H D I hw;obtain⟨d,u,hd,mu,hw⟩:=hw;obtain⟨od,I1⟩:=I.lock hd mu;refine aL (h pins s σ _ _ I1 (hw od)) λf s1 q=>?_;cases f with
 |next=>obtain⟨σ',H',I2,e,q⟩:=q;exact⟨σ',_,I2.unlock e Ãk,q⟩
 |brk=>obtain⟨σ',H',I2,e,q⟩:=q;exact⟨σ',_,I2.unlock e Ãk,q⟩
 |cont=>obtain⟨σ',H',I2,e,q⟩:=q;exact⟨σ',_,I2.unlock e Ãk,q⟩
 |ret v=>obtain⟨x,σ',H',I2,r,e,q⟩:=q;exact⟨x,σ',_,I2.unlock e Ãk,r,q⟩
def abA(h:ϝ t):ϝ (abz t):=by
 intro pins s σ H Q I hw;obtain⟨d,u,hd,mu,hw⟩:=hw;obtain⟨od,I1⟩:=I.lock hd mu;refine aL (h pins s σ _ _ I1 (hw od)) λv s1 ⟨x,H1,I2,r,e2,q⟩=>?_;exact⟨x,_,I2.unlock e2 Ãk,r,q⟩
def DF{tg:Expr}{pins:bI}{σ:St}{H:Hp}{s:Sh}{R:It→Hp→Prop}{J:It}{tn:Nat→Heap→Prop}{tk:Nat}(I:Á H s)(o:Obj)(T:Turn X.prog X.w X.K tg J [s.heap.objs.size] s.heap.objs.size tn) (st:tn 0 (s.heap.push o)) (q:R J H):Av X pins σ tg R Ķ {s with heap:=s.heap.push o,toks:=tk}:=by
 refine⟨s.heap.objs.size,[s.heap.objs.size],tn,J,H,rfl,I.kept λb ob e=>dh _ e,T,st,λb hb=>?_,q⟩;have e:b=s.heap.objs.size:=by simpa using hb
 subst e;exact I.uY (bO _) ħ
end
section
end
section
end
def AW(x:Str):It:=⟨λi _=>i<x.cps.size,λi H v H'=>H'=H∧∃c,x.cps[i]? =some c∧v=.str ⟨#[c]⟩,λi _=>x.cps.size≤i⟩
def QD{P:Pg}{w:Wd}{K:FR}{tg:Expr}(it:Addr)(x:Str)(t:Tok)(ty:String)(rJ:ty="str_ascii_iterator"∨ty="str_iterator"):
  Turn P w K tg (AW x) [it] it (λi h=>h.IsStrIter it ty x t i) where
 mem:=by simp
 obj:=λi h st b hb=>by
  have e:b=it:=by simpa using hb
  subst e;obtain⟨o,e,c,d⟩:=st;exact⟨o,e,λv z=>by rw[d] at z;cases z⟩
 keep:=λi h h' st k=>let ⟨o,ho,r⟩:=st;⟨o,k it Â o ho,r⟩
 item:=by
  show Ñ;subst hP hw hK;show é;have W:Walks X.prog X.w X.A it [it] [it] x.cps.size (SignAt x) (λi h=>h.IsStrIter it ty x t i):=by
   rcases rJ with e|e
   ·rw[e];exact Walks.strAscii ă it x t
   ·rw[e];exact Walks.strWide ă it x t
  have AH:["enumerate","zip","dict_itemiterator","dict_reverseitemiterator","odict_iterator","itertools.zip_longest","itertools.pairwise"].contains ty=false:=by
   rcases rJ with e|e
   ·rw[e];decide
   ·rw[e];decide
  refine W.item i s _ _ hg st λv h' tk hv nV kk=>?_;obtain⟨c,u,t7,rfl⟩:=hv;have I1:Á H {s with heap:=h',toks:=tk}:=I.turned (λb o hb e=>kk b o (by simpa using hb) e) f0 f1 f3 f4 f5;obtain⟨oi,e,cc,dd⟩:=id nV;exact⟨_,rfl,Df (s:={s with heap:=h',toks:=tk}) e cc dd AH ⟨.str ⟨#[c]⟩,H,I1,⟨u,rfl⟩,⟨rfl,c,t7,rfl⟩,nV,λb hb=>(hf b hb).1⟩⟩
 done:=by
  show Ñ;subst hP hw hK;show é;have hx:x.cps[i]? =none:=aoG hg;rcases rJ with e|e
  ·rw[e] at st;exact wpAny_pyNext_ascii_end ă st hx λh' eb=>⟨rfl,I.turned (t':=s.toks) ϐ f0 f1 f3 f4 f5⟩
  ·rw[e] at st;exact wpAny_pyNext_wide_end ă st hx λh' eb=>⟨rfl,I.turned (t':=s.toks) ϐ f0 f1 f3 f4 f5⟩
 self:=λA i s Q E st h=>by
  rcases rJ with e|e
  ·rw[e] at st;exact wpAny_pyIter_striter_ascii st h
  ·rw[e] at st;exact wpAny_pyIter_striter_wide st h
def abB(te:TE):TI:=λσ H R=>te σ H λv H1=>∃x,v=.str x∧R (AW x) H1
def abC{X:Cx}{tg e:Expr}{te:TE}(he:ϝ te):PI X tg e (abB te):=by
 intro pins s σ H R I h;refine aL (he pins s σ H _ I h) λv s1 ⟨y,H1,I1,r1,x,ex,q⟩=>?_;subst ex;obtain⟨t,rfl⟩:=r1;cases ha:x.cps.all (· <128)
 ·exact wpAny_pyIter_wide ha (DF (tk:=s1.toks) I1 _ (QD _ x t "str_iterator" Æz) ⟨_,g9 _ rfl,rfl,rfl⟩ q)
 ·exact wpAny_pyIter_ascii ha (DF (tk:=s1.toks) I1 _ (QD _ x t "str_ascii_iterator" Ą) ⟨_,g9 _ rfl,rfl,rfl⟩ q)
section
end
theorem QE{κ:Type}{kvs:List (κ×V)}{vs:List (κ×Value)}(h:KV kvs vs):∀{i:Nat}{k:κ}{v:V},kvs[i]? =some (k,v)→∃u,vs[i]? =some (k,u)∧RelV v u:=by
 unfold KV at h;induction h with
 |nil=>intro i k v e;simp at e
 | @cons a b l₁ l₂ r t ih=>
  intro i k v e;cases i with
  |zero=>
   simp only[aoI,Option.some.injEq] at e;subst e;refine⟨b.2,?_,r.2⟩;simp only[aoI];exact cz some (Prod.ext r.1.symm rfl)
  |succ j=>
   simp only[aoJ] at e⊢;exact ih e
def abD(h:rj k u=true):RelV (kV k) u:=by
 rcases rk h with ⟨i,t,rfl,rfl⟩|⟨x,t,rfl,rfl⟩
 ·exact⟨t,rfl⟩
 ·exact⟨t,rfl⟩
section
variable{X:Cx}{pins:bI}{σ:St}{H:Hp}{s:Sh}{d:Addr}{o:Obj}
def Inv.yF(I:Á H s)(h:H d=some ϥ):
  (d==sysModules)=false∧s.heap.get? d=some o∧o.ExactDict∧∃(es:Array DictEntry)(ep:Nat)(vs:List (Key×Value)),o.data=.dict es ep∧es.size=kvs.length∧KV kvs vs∧s.heap.DictAt ā d vs ep:=by
 obtain⟨hd,z,hs,vs,kv,o',es,ep,ho,hx,mX,r⟩:=I.ax d _ h;rw[hd] at ho;cases ho;refine⟨hs,hd,hx,es,ep,vs,mX,?_,kv,o,es,hd,hx,mX,r⟩;have l1:=r.2.1.length;have l2:kvs.length=vs.length:=Paired.length kv;simp_all
end
def AX(d:Addr)(o:Obj)(kvs:List (Key×V)):It:=
 ⟨λi H=>H d=some ϥ∧i<kvs.length,λi H x H'=>H'=H∧∃k,kvs[i]? =some (k,x),λi H=>H d=some ϥ∧kvs.length≤i⟩
def vg(d:Addr)(o:Obj)(kvs:List (Key×V)):It:=
 ⟨λi H=>H d=some ϥ∧i<kvs.length,λi H x H'=>∃T k v,kvs[i]? =some (k,v)∧x=.ref T∧H T=none∧H'=upd H T Çg,λi H=>H d=some ϥ∧kvs.length≤i⟩
def DG{o:Obj}{es nR:Array DictEntry}{ep rn:Nat}(h:o.data=.dict es ep)(h':o.data=.dict nR rn):nR=es∧rn=ep:=by
 simp_all
section
variable{P:Pg}{w:Wd}{K:FR}{tg:Expr}{d:Addr}{o:Obj}{es:Array DictEntry}{ep:Nat}
def abE{kvs:List (Key×V)}(it:Addr)(AY:o.data=.dict es ep):Turn P w K tg (AX d o kvs) [it] it (λi h=>h.IsValIter it d i kvs.length ep) where
 mem:=by simp
 obj:=λi h st b hb=>by
  have e:b=it:=by simpa using hb
  subst e;obtain⟨oi,e,c,dd⟩:=st;exact⟨oi,e,λv z=>by rw[dd] at z;cases z⟩
 keep:=λi h h' st k=>st.at λoi e=>k it Â oi e
 item:=by
  show Ñ;subst hP hw hK;obtain⟨hd,hi⟩:=hg;show é;obtain⟨hs,AZ,hx,nR,rn,vs,mX,hsz,kv,hm⟩:=I.yF hd;obtain⟨rfl,rfl⟩:=DG AY mX;obtain⟨⟨k,v⟩,A0⟩:∃p,kvs[i]? =some p:=⟨kvs[i],dm hi⟩;obtain⟨u,hu,ru⟩:=QE kv A0;have hl:kvs.length=vs.length:=Paired.length kv;rw[hl] at st;refine wpAny_pyNext_values_item st hm hu λh' nV sb=>?_;have I1:Á H {s with heap:=h'}:=I.turned (t':=s.toks) (λb ob hb e=>(sb.2 b hb).trans e) f0 f1 f3 f4 f5;obtain⟨oi,e,c,dd⟩:=id nV;refine⟨u,rfl,Df (s:={s with heap:=h'}) e c dd Ø ⟨v,H,I1,ru,⟨rfl,k,A0⟩,?_,λb hb=>(hf b hb).1⟩⟩;show h'.IsValIter it d (i+1) kvs.length _;rw[hl];exact nV
 done:=by
  show Ñ;subst hP hw hK;obtain⟨hd,hi⟩:=hg;show é;obtain⟨hs,AZ,hx,nR,rn,vs,mX,hsz,kv,hm⟩:=I.yF hd;obtain⟨rfl,rfl⟩:=DG AY mX;have hl:kvs.length=vs.length:=Paired.length kv;rw[hl] at st;exact wpAny_pyNext_values_end ă st hm (yd Ä) λh' eb=>⟨rfl,I.turned (t':=s.toks) (λb ob hb e=>eb b ob hb e) f0 f1 f3 f4 f5⟩
 self:=λA i s Q E st h=>wpAny_pyIter_valiter st h
def DH{X:Cx}{fp:LA}(st:∀b∈fp,∃o,s.heap.get? b=some o∧∀v,o.data≠ .cell v)(hf:∀b∈fp,ľ H b){o8:Heap}{t':Nat}{x y:V}{u v:Value}(k:∀b o,b∉fp→s.heap.get? b=some o→o8.get? b=some o)(I:Á H s)(hT:o8.get? s.heap.objs.size=some {cls:=.type "tuple",data:=.seq #[u,v]}) (ru:RelV x u) (rv:RelV y v):Á (ě Æv) {s with heap:=o8,toks:=t'}∧∀b∈fp,(ě Æv) b=none:=
 ⟨I.abx k hf (bO _) ⟨by show 2≤sizeLine;decide,[u,v],.cons ru (.cons rv .nil),_,hT,rfl,_,rfl⟩,λb hb=>by
  obtain⟨o,e,_⟩:=st b hb;rw[au (fU (di e))];exact(hf b hb).1⟩
def QF(st:∃ok ov,IsItemIter h it d i n ep ok ov):∀b∈[it],∃o,h.get? b=some o∧∀v,o.data≠ .cell v:=λb hb=>by
 obtain rfl:b=it:=by simpa using hb
 obtain⟨ok,ov,e⟩:=st;exact⟨_,e,λv z=>nomatch z⟩
def abF{kvs:List (Key×V)}{mr:List Expr}{kk:Nat}{lS:Pos}(it:Addr)(AY:o.data=.dict es ep):
  Turn P w K Ĩ (vg d o kvs) [it] it (λi h=>∃ok ov,IsItemIter h it d i kvs.length ep ok ov) where
 mem:=by simp
 obj:=λi h=>QF
 keep:=λi h h' st k=>let ⟨ok,ov,e⟩:=st;⟨ok,ov,k it Â _ e⟩
 item:=by
  show Ñ;subst hP hw hK;obtain⟨hd,hi⟩:=hg;obtain⟨hs,AZ,hx,nR,rn,vs,mX,hsz,kv,hm⟩:=I.yF hd;obtain⟨rfl,rfl⟩:=DG AY mX;obtain⟨⟨k,v⟩,A0⟩:∃p,kvs[i]? =some p:=⟨kvs[i],dm hi⟩;obtain⟨u,hu,ru⟩:=QE kv A0;have hl:kvs.length=vs.length:=Paired.length kv;have ob:=QF st;obtain⟨ok,ov,he⟩:=st;rw[hl] at he;have bJ:it<s.heap.objs.size:=di he;refine wpAny_pyNext_items_item he hm hu λg8 h' Hz ho hT hz hk=>?_;refine⟨_,rfl,wpAny_letOwnedTupleGo_items (s:={s with heap:=h'}) ho λo8 A1 sb=>?_⟩;have t9:o8.get? s.heap.objs.size=some {cls:=.type "tuple",data:=.seq #[g8,u]}:=(sb.2 _ (sX bJ)).trans hT;have ⟨I1,n1⟩:=DH (t':=s.toks) ob hf (λb ob hb e=>(sb.2 b (by simpa using hb)).trans (hk b ob (by simpa using hb) e)) I t9 (abD (show rj k g8=true from Hz)) ru;exact⟨.ref s.heap.objs.size,_,I1,rfl,⟨_,k,v,A0,rfl,I.ax.fresh (bO _),rfl⟩,⟨g8,u,by rw[hl];exact A1⟩,n1⟩
 done:=by
  show Ñ;subst hP hw hK;obtain⟨hd,hi⟩:=hg;show é;obtain⟨hs,AZ,hx,nR,rn,vs,mX,hsz,kv,hm⟩:=I.yF hd;obtain⟨rfl,rfl⟩:=DG AY mX;have hl:kvs.length=vs.length:=Paired.length kv;obtain⟨ok,ov,he⟩:=st;rw[hl] at he;exact wpAny_pyNext_items_end ă he hm (yd Ä) λh' eb=>⟨rfl,I.turned (t':=s.toks) (λb ob hb e=>eb b ob hb e) f0 f1 f3 f4 f5⟩
 self:=λA i s Q E st h=>let ⟨_,_,e⟩:=st;PySem.W.kcp_self e h
end
def abG(td:TE):TI:=λσ H R=>td σ H λx H1=>∃d o kvs,x=.ref d∧H1 d=some ϥ∧R (AX d o kvs) H1
def abH(td:TE):TI:=λσ H R=>td σ H λx H1=>∃d o kvs,x=.ref d∧H1 d=some ϥ∧R (vg d o kvs) H1
section
variable{X:Cx}{tg e:Expr}{td:TE}{iP fG:Pos}
def abI(he:ϝ td)(tu:attributeBase e "values" X.env Àf=eval e X.env:=by rfl)(wQ:(iP.endLine==fG.line)=true:=by rfl):PI X tg (.Call (.Attribute e "values" iP) [] [] fG) (abG td):=by
 intro pins s σ H R I h;refine GA (T:="dict") (id:="dict.values") tu rfl wQ F.plainAttrs_dict F.slot_dict_values F.type_dict_values (aL (he pins s σ H _ I h) λu s1 ⟨x,H1,I1,rx,d,o,kvs,ex,hd,q⟩=>?_);subst ex;obtain rfl:u=Value.ref d:=rx;obtain⟨hs,AZ,hx,es,ep,vs,mX,hsz,kv,hm⟩:=I1.yF hd;have hl:kvs.length=vs.length:=Paired.length kv;refine⟨hm.dictOf.typeIs,hm.dictOf.mapOf.noDict,?_⟩;have I2:Á H1 {s1 with heap:=s1.heap.push {cls:=.type "dict_values",data:=.fields #[.ref d]}}:=I1.kept (t':=s1.toks) λb ob q=>dh _ q;have fin:wpAny Æ X.A (pyIter (.ref s1.heap.objs.size)) Äi X.xe {s1 with heap:=s1.heap.push {cls:=.type "dict_values",data:=.fields #[.ref d]}}:=by
  refine wpAny_pyIter_values (d:=d) (knd:=eU X.prog X.w) ⟨_,g9 _ rfl,rfl,rfl⟩ (hm.push _) (DF (tk:=s1.toks) I2 _ (abE _ mX) ⟨_,g9 _ rfl,rfl,?_⟩ q);simp_all
 show wpAny _ _ (callWith fG (.builtin "dict.values") [.ref d] [] []) _ X.xe s1;exact method_meetsIn F.slot_dict_values F.entry_dict_values rfl (PySem.evalArgs_none ⟨rfl,hm.dictOf.typeIs,F.args_dict_values_1 _,_,meets_dict_values ā d hs,⟨vs,hm.dictOf⟩,fin⟩)
def QG{mr:List Expr}{kk:Nat}{lS:Pos}(he:ϝ td)(tu:attributeBase e "items" X.env Àf=eval e X.env:=by rfl)(wQ:(iP.endLine==fG.line)=true:=by rfl):
  PI X Ĩ (.Call (.Attribute e "items" iP) [] [] fG) (abH td):=by
 intro pins s σ H R I h;refine GA (T:="dict") (id:="dict.items") tu rfl wQ F.plainAttrs_dict F.slot_dict_items F.type_dict_items (aL (he pins s σ H _ I h) λu s1 ⟨x,H1,I1,rx,d,o,kvs,ex,hd,q⟩=>?_);subst ex;obtain rfl:u=Value.ref d:=rx;obtain⟨hs,AZ,hx,es,ep,vs,mX,hsz,kv,hm⟩:=I1.yF hd;have hl:kvs.length=vs.length:=Paired.length kv;refine⟨hm.dictOf.typeIs,hm.dictOf.mapOf.noDict,?_⟩;have I2:Á H1 {s1 with heap:=s1.heap.push {cls:=.type "dict_items",data:=.fields #[.ref d]}}:=I1.kept (t':=s1.toks) λb ob q=>dh _ q;have fin:wpAny Æ X.A (pyIter (.ref s1.heap.objs.size)) (Av X pins σ Ĩ R) X.xe {s1 with heap:=s1.heap.push {cls:=.type "dict_items",data:=.fields #[.ref d]}}:=by
  refine wpAny_pyIter_items (d:=d) (knd:=eU X.prog X.w) ⟨_,g9 _ rfl,rfl,rfl⟩ (hm.push _) (DF (tk:=s1.toks) I2 _ (abF _ mX) ⟨.none,.none,?_⟩ q);rw[hl];exact g9 _ rfl
 show wpAny _ _ (callWith fG (.builtin "dict.items") [.ref d] [] []) _ X.xe s1;exact method_meetsIn F.slot_dict_items F.entry_dict_items rfl (PySem.evalArgs_none ⟨rfl,hm.dictOf.typeIs,F.args_dict_items_1 _,_,meets_dict_items ā d hs,⟨vs,hm.dictOf⟩,fin⟩)
end
def vh(K:FR)(a:Addr):It:=
 ⟨λi H=>∃(xs:aq)(x:V),ß a xs∧xs[i]? =some x,λi H v H'=>∃T x,v=.ref T∧H T=none∧H'=upd H T (.tup [.int (i:Nat),x])∧∀xs,ß a xs→xs[i]? =some x,λi H=>∃xs:aq,ß a xs∧xs.length≤i⟩
def DI{e it:Addr}{Z:Prop}(st:(∃iz,IsEnum h e it c iz)∧(∃o,h.get? it=some o∧o.cls=C∧o.data=.fields vs)∧Z):∀b∈[e,it],∃o,h.get? b=some o∧∀v,o.data≠ .cell v:=λb hb=>by
 obtain⟨⟨iz,he⟩,⟨o,ho,hc,hd⟩,_⟩:=st;have e':b=e∨b=it:=by simpa using hb
 rcases e' with rfl|rfl
 ·exact⟨_,he,λv q=>nomatch q⟩
 ·exact⟨o,ho,λv q=>by rw[hd] at q;cases q⟩
def abJ{P:Pg}{w:Wd}{K:FR}{mr:List Expr}{kk:Nat}{lS:Pos}(a e it:Addr):
  Turn P w K Ĩ (vh K a) [e,it] e (λi h=>(∃iz,IsEnum h e it ((i:Nat):Int) iz)∧h.IsListIter it a i∧e≠it) where
 mem:=by simp
 obj:=λi h=>DI
 keep:=λi h h' st k=>let ⟨⟨iz,he⟩,hi,aQ⟩:=st;⟨⟨iz,k e Â _ he⟩,hi.at λo q=>k it Â o q,aQ⟩
 item:=by
  show Ñ;subst hP hw hK;have ob:=DI st;obtain⟨⟨iz,he⟩,mq,aQ⟩:=st;obtain⟨xs,x,hq,hx⟩:=hg;obtain⟨aj,rv,p,hz⟩:=I.list hq;obtain⟨u,hu,ru⟩:=rv.get hx;have Ii:e<s.heap.objs.size:=di he;refine wpAny_pyNext_enum_item he mq p.isList (x:=u) (by simpa using hu) aQ λh' ho G6 hT hsz hk=>?_;refine⟨_,rfl,aoN (s:={s with heap:=h',toks:=s.toks+1}) ho λo8 A1 sb=>?_⟩;have t9:o8.get? s.heap.objs.size=some {cls:=.type "tuple",data:=.seq #[.int i s.toks,u]}:=(sb.2 _ (sX Ii)).trans hT;have ⟨I1,n1⟩:=DH (x:=.int (i:Nat)) (t':=s.toks+1) ob hf (λb ob hb q=>(sb.2 b (λz=>hb (by simp[z]))).trans (hk b ob (λz=>hb (by simp[z])) (λz=>hb (by simp[z])) q)) I t9 ⟨_,rfl⟩ ru;exact⟨.ref s.heap.objs.size,_,I1,rfl,⟨_,x,rfl,I.ax.fresh (bO _),rfl,λys hy=>by rw[I.Ar hy hq];exact hx⟩,⟨⟨u,by rw[show((i+1:Nat):Int)=(i:Int)+1 by omega];exact A1⟩,G6.at λo q=>(sb.2 it Åb).trans q,aQ⟩,n1⟩
 done:=by
  show Ñ;subst hP hw hK;obtain⟨⟨iz,he⟩,mq,aQ⟩:=st;obtain⟨xs,hq,hx⟩:=hg;obtain⟨aj,rv,p,hz⟩:=I.list hq;show é;have hl:=rv.length;exact wpAny_pyNext_enum_end ă he mq p.isList (by simp;omega) λh' eb=>⟨rfl,I.turned (t':=s.toks) (λb o hb q=>eb b o hb q) f0 f1 f3 f4 f5⟩
 self:=λA i s Q E st h=>let ⟨⟨_,he⟩,_⟩:=st;Oy he h
def abK(K:FR)(ta:TA):TI:=λσ H R=>ta σ H λvs H1=>∃a xs,vs=[.ref a]∧aa K H1 a xs∧R (vh K a) H1
def ku(hg:Gl X "enumerate")(hm:X.mg "enumerate"=none)(ha:PA X [e] ta)(hs:starEach [e] X.env=[(false,eval e X.env)]:=by rfl):
  PI X Ĩ (.Call (.Name "enumerate" p) [e] [] pos) (abK X.K ta):=by
 intro pins s σ H R I h;refine Call_ (Àg boot_enumerate (CC (aL (ha pos pins s σ H _ I h) λus s1 ⟨vs,H1,I1,r1,q1⟩=>?_) hs rfl));obtain⟨a,xs,ex,hq,q⟩:=q1;subst ex;cases r1 with
 |cons r rr=>
  cases rr;cases r;obtain⟨aj,rv,p',hz⟩:=I1.list hq;refine call_enumerate_list p'.isList λh' he mq hsz hk=>Oy he ?_;have I2:Á H1 {s1 with heap:=h'}:=I1.kept (t':=s1.toks) hk;refine⟨s1.heap.objs.size+1,[s1.heap.objs.size+1,s1.heap.objs.size],_,_,H1,rfl,I2,abJ a (s1.heap.objs.size+1) s1.heap.objs.size,⟨⟨.none,he⟩,mq,Nat.succ_ne_self _⟩,λb hb=>?_,q⟩;have e':b=s1.heap.objs.size+1∨b=s1.heap.objs.size:=by simpa using hb
  have j0:s1.heap.objs.size≤b:=by
   grind
  exact I1.uY j0 Æt
def abL:bootBuiltins "zip"=some (.type "zip"):=by decide+kernel
def A2(K:FR)(a b:Addr):It:=
 ⟨λi H=>∃(xs ys:aq)(x y:V),ß a xs∧ß b ys∧xs[i]? =some x∧ys[i]? =some y,
  λi H v H'=>∃T x y,v=.ref T∧H T=none∧H'=upd H T Æv∧(∀xs,ß a xs→xs[i]? =some x)∧∀ys,ß b ys→ys[i]? =some y,
  λi H=>∃xs ys:aq,ß a xs∧ß b ys∧(xs.length≤i∨ys.length≤i)⟩
def QH{z TI TO i1 i2:Addr}(st:IsZip h z TI TO .none∧IsPair h TI (.ref i1) (.ref i2)∧(∃x y,IsPair h TO x y)∧h.IsListIter i1 a i∧h.IsListIter i2 b i):∀b∈[z,TI,TO,i1,i2],∃o,h.get? b=some o∧∀v,o.data≠ .cell v:=λc hc=>by
 obtain⟨hz,rN,⟨x,y,ua⟩,⟨o1,e1,_,d1⟩,⟨o2,e2,_,d2⟩⟩:=st;have e':c=z∨c=TI∨c=TO∨c=i1∨c=i2:=by simpa using hc
 rcases e' with rfl|rfl|rfl|rfl|rfl
 ·exact⟨_,hz,λv q=>nomatch q⟩
 ·exact⟨_,rN,λv q=>nomatch q⟩
 ·exact⟨_,ua,λv q=>nomatch q⟩
 ·exact⟨o1,e1,λv q=>by rw[d1] at q;cases q⟩
 ·exact⟨o2,e2,λv q=>by rw[d2] at q;cases q⟩
def abM{P:Pg}{w:Wd}{K:FR}{mr:List Expr}{kk:Nat}{lS:Pos}{a b z TI TO i1 i2:Addr}(D:ZipApart z TI TO i1 i2 a b):
  Turn P w K Ĩ (A2 K a b) [z,TI,TO,i1,i2] z (λi h=>IsZip h z TI TO .none∧IsPair h TI (.ref i1) (.ref i2)∧(∃x y,IsPair h TO x y)∧h.IsListIter i1 a i∧h.IsListIter i2 b i) where
 mem:=by simp
 obj:=λi h=>QH
 keep:=λi h h' st k=>by
  obtain⟨hz,rN,⟨x,y,ua⟩,h1,h2⟩:=st;exact⟨k z Â _ hz,k TI Â _ rN,⟨x,y,k TO Â _ ua⟩,h1.at λo q=>k i1 Â o q,h2.at λo q=>k i2 Â o q⟩
 item:=by
  show Ñ;subst hP hw hK;have ob:=QH st;obtain⟨hz,rN,⟨x0,y0,ua⟩,h1,h2⟩:=st;obtain⟨xs,ys,x,y,yG,yH,hx,hy⟩:=hg;obtain⟨aj,rv,p,_⟩:=I.list yG;obtain⟨mV,yI,p2,_⟩:=I.list yH;obtain⟨u,hu,ru⟩:=rv.get hx;obtain⟨u2,HP,HQ⟩:=yI.get hy;have qt:z<s.heap.objs.size:=di hz;refine wpAny_pyNext_zip_item D hz rN ua h1 h2 p.isList p2.isList (x:=u) (y:=u2) (by simpa using hu) (by simpa using HP) λh' z' TO' h1' h2' hT hsz hk=>?_;refine⟨_,rfl,wpAny_letOwnedTupleGo_zip (s:={s with heap:=h'}) z' λo8 z'' sb=>?_⟩;have t9:o8.get? s.heap.objs.size=some {cls:=.type "tuple",data:=.seq #[u,u2]}:=(sb.2 _ (sX qt)).trans hT;have ⟨I1,n1⟩:=DH (t':=s.toks) ob hf (λc o hb q=>(sb.2 c (λq'=>hb (by simp[q']))).trans (hk c o (λq'=>hb (by simp[q'])) (λq'=>hb (by simp[q'])) (λq'=>hb (by simp[q'])) (λq'=>hb (by simp[q'])) q)) I t9 ru HQ;exact⟨.ref s.heap.objs.size,_,I1,rfl,⟨_,x,y,rfl,I.ax.fresh (bO _),rfl,λl hl=>by rw[I.Ar hl yG];exact hx,λl hl=>by rw[I.Ar hl yH];exact hy⟩,⟨z'',(sb.2 _ D.TIz).trans (hk _ _ D.TIz D.TITO D.TIi1 D.TIi2 rN),⟨u,u2,(sb.2 _ D.TOz).trans TO'⟩,h1'.at λo q=>(sb.2 _ D.i1z).trans q,h2'.at λo q=>(sb.2 _ D.i2z).trans q⟩,n1⟩
 done:=by
  show Ñ;subst hP hw hK;obtain⟨hz,rN,⟨x0,y0,ua⟩,h1,h2⟩:=st;obtain⟨xs,ys,yG,yH,abR⟩:=hg;obtain⟨aj,rv,p,_⟩:=I.list yG;obtain⟨mV,yI,p2,_⟩:=I.list yH;have l1:=rv.length;have l2:=yI.length;have he:aj.toArray[i]? =none∨mV.toArray[i]? =none:=by
   rcases abR with q|q
   ·exact .inl (by simp;omega)
   ·exact .inr (by simp;omega)
  exact wpAny_pyNext_zip_end ă D hz rN ua h1 h2 p.isList p2.isList he λh' hk=>⟨rfl,I.abw (t':=s.toks) (ch:=[z,TI,TO,i1,i2]) (λc o hb q=>
   hk c o (λq'=>hb (by simp[q'])) (λq'=>hb (by simp[q'])) (λq'=>hb (by simp[q'])) (λq'=>hb (by simp[q'])) q) hf⟩
 self:=λA i s Q E st h=>wpAny_pyIter_zip st.1 h
def abS(K:FR)(ta:TA):TI:=λσ H R=>ta σ H λvs H1=>∃a b xs ys,vs=[.ref a,.ref b]∧aa K H1 a xs∧aa K H1 b ys∧R (A2 K a b) H1
def QI{X:Cx}{e e2:Expr}{ta:TA}{p pos lS:Pos}{mr:List Expr}{kk:Nat}(hg:Gl X "zip")(hm:X.mg "zip"=none)(ha:PA X [e,e2] ta)(hs:starEach [e,e2] X.env=(false,eval e X.env)::starEach [e2] X.env:=by rfl) (df:(backTo pos (starEach [e2] X.env)).any (·.1)=false:=by rfl):
  PI X Ĩ (.Call (.Name "zip" p) [e,e2] [] pos) (abS X.K ta):=by
 intro pins s σ H R I h;refine Call_ (Àg abL (CC (aL (ha pos pins s σ H _ I h) λus s1 ⟨vs,H1,I1,r1,q1⟩=>?_) hs df));obtain⟨a,b,xs,ys,ex,yG,yH,q⟩:=q1;subst ex;cases r1 with
 |cons r rr=>
  cases rr with
  |cons r' rr=>
   cases rr;cases r;cases r';obtain⟨aj,rv,p1,_⟩:=I1.list yG;obtain⟨mV,yI,p2,_⟩:=I1.list yH;have la:a<s1.heap.objs.size:=p1.lt;have lb:b<s1.heap.objs.size:=p2.lt;refine call_zip_2 p1.isList p2.isList λh' hz rN ua h1 h2 hsz hk=>wpAny_pyIter_zip hz ?_;have I2:Á H1 {s1 with heap:=h'}:=I1.kept (t':=s1.toks) hk;refine⟨s1.heap.objs.size+4,[s1.heap.objs.size+4,s1.heap.objs.size+2,s1.heap.objs.size+3,s1.heap.objs.size,s1.heap.objs.size+1],_,_,H1,rfl,I2,abM (PySem.W.ktu_apart s1.heap.objs.size a b la lb),⟨hz,rN,⟨_,_,ua⟩,h1,h2⟩,λc yJ=>?_,q⟩;have e':c=s1.heap.objs.size+4∨c=s1.heap.objs.size+2∨c=s1.heap.objs.size+3∨c=s1.heap.objs.size∨c=s1.heap.objs.size+1:=by simpa using yJ
   have j0:s1.heap.objs.size≤c:=by
    grind
   exact I1.uY j0 Æt
end L2
section
namespace Bits
open PySem PyProof.Rows
end Bits
end
section
namespace TL
open PySem PySem.Builtin PySem.Builtin.Str PySem.StrLaws
end TL
end
namespace L2
open PySem PySem.Spec PyProof.Rows
section
variable{X:Cx}{pins:bI}{σ:St}{H:Hp}{s:Sh}{Q:VK}
end
section
end
section
end
end L2
namespace L2
open PySem PySem.Spec PyProof.Rows
section
end
end L2
namespace Att
open PySem PySem.W PySem.Calls PyProof.Rows
section
end
end Att
namespace L2
open PySem PySem.Spec PyProof.Rows
end L2
namespace L2
open PySem PySem.Spec PyProof.Rows
end L2
namespace L2
open PySem PySem.Spec PyProof.Rows
abbrev aE:mT:=λ_ _ _ _ _ _=>False
abbrev E0:XK:=λ_ _ _=>False
def rO:tP aE X E0:=λ_ _ _ _ _ _ _ h=>h.elim
structure br(K:FR)(x cY:Str)(st:Stmt)(f:Addr)(fd:FD):Prop where
 ex:∃(oc:Value)(od:OA)(kV iO pm:Value)(an:OA)(aG ct:Value)(mG:AO),
  fd=PySem.W.fnOf x cY (tq st) Äz Án .none kV iO pm an aG ct∧K.lookup f=some ⟨oc,od,.func fd,mG⟩∧PySem.W.codeIn K aG cY=true
 kp:PySem.W.keepIn K ą=true
section
variable{P:Pg}{w:Wd}{K:FR}{mg:MG}{base:Heap}
def br.ok{x cY:Str}{st:Stmt}{f:Addr}{fd:FD}{N ps:LS}{k:Nat}{sp:Sp}(F:Áb fd)(S:bC N ps Án)(tQ:∀(aG:Value)(A:Around)(outer:List Env)(s:Sh)(H:Hp)(vs:aq)(Q:VK)(E:XK),dw k ĺ→sp vs H Q E→
   ∃t,jI (ō N cY Án f aG A outer s H E).rD Äz t∧t {nx:=λ_ H'=>Q .aJ H',rt:=Q} ŕ H) (len:∀vs H Q E,sp vs H Q E→vs.length=ps.length:=by intro _ _ _ _ h;first|(cases h;subst_vars;rfl)|(repeat first|(obtain⟨rfl,_⟩:=h;rfl)|obtain⟨_,h⟩:=h)):Ê aE (k+1) f fd ps sp:=by
 obtain⟨oc,od,kV,iO,pm,an,aG,ct,mG,rfl,lk,j8⟩:=F.ex;refine HC lk j8 S len λA outer s H vs Q E hr jd=>?_;obtain⟨t,h,q⟩:=tQ aG A outer s H vs Q E hr jd;exact⟨t,h.rD,q⟩
def br.binds{x cY:Str}{st:Stmt}{f:Addr}{fd:FD}{ps:LS}(F:Áb fd)(h:∀(kV iO pm:Value)(an:OA)(aG ct:Value)(us:LV),us.length=ps.length→bindArgs ĕ ⟨us,[]⟩=pure ϟ):Binds K fd ps []:=by
 obtain⟨oc,od,kV,iO,pm,an,aG,ct,mG,rfl,lk,j8⟩:=F.ex;exact .all (h kV iO pm an aG ct)
def mY{x cY:Str}{st:Stmt}{f:Addr}{oc:Value}{od an:OA}{mG:AO}{kV iO pm aG ct:Value}(l:K.lookup f=some ⟨oc,od,.func ĕ,mG⟩)(c:PySem.W.codeIn K aG cY=true) (k:PySem.W.keepIn K ą=true):Áb ĕ:=⟨⟨oc,od,kV,iO,pm,an,aG,ct,mG,rfl,l,c⟩,k⟩
end
def yK(hr:dw k A):A.units+1<cLine:=oQ (Xv (by decide:1≤64) _) hr.units
section
def pv(i:Nat)(hN:X.N[i]? =some x:=by rfl)(hv:wu X.env.scope x:=by first|exact Or.inl rfl|exact Or.inr (Or.inl rfl)|exact Or.inr (Or.inr rfl))(hd:(x==("__debug__":Str))=false:=by decide)(j8:(x==("__classdict__":Str))=false:=by decide):PE X Ϸ (ay i):=O0 hN hv hd j8
end
def mZ{A B:Prop}(h:B):if false=true then A else B:=by
 simp_all
def ky{A B:Prop}(h:A):if true=true then A else B:=by
 simp_all
def a9{c A B:Prop}[Decidable c](h1:c→A)(h2:¬c→B):if c then A else B:=by
 simp_all
def ai(H H':Hp):Prop:=∀b o,H b=some o→H' b=some o
def ai.refl(H:Hp):ai H H:=λ_ _ h=>h
def ai.trans(a:ai H H1)(b:ai H1 H2):ai H H2:=λc o h=>b c o (a c o h)
theorem ai.free(e:ai H H')(h:H' l=Option.none):H l=Option.none:=by
 cases q:H l with
 |none=>rfl
 |some o=>
  rw[e l o q] at h;cases h
def ai.seq{K:FR}{H H':Hp}{a:Addr}{xs:aq}(e:ai H H')(h:ß a xs):aa K H' a xs:=by
 rcases h with (h|⟨o,h⟩)|h
 ·exact .inl (.inl (e _ _ h))
 ·exact .inl (.inr ⟨o,e _ _ h⟩)
 ·exact .inr h
section
variable{κ:Type}[DecidableEq κ]
theorem Ij{l:List κ}:∀{k:κ},l.Nodup→¬k∈l→(l++[k]).Nodup:=by
 induction l with
 |nil=>
  intro k _ _;simp
 |cons a r ih=>
  intro k h hk;obtain⟨h1,h2⟩:=j4.mp h;show(a::(r++[k])).Nodup;refine j4.mpr ⟨λm=>?_,ih h2 λm=>hk (bf.mpr (Or.inr m))⟩;rcases gK.mp m with q|q
  ·exact h1 q
  ·exact hk (bf.mpr (Or.inl (nJ.mp q).symm))
end
def ai.made(nx:H x=Option.none)(nd:H dx=Option.none)(k:∀b o,(upd (upd H dx Äs) x Âc) b=some o→b≠x→H1 b=some o):ai H H1:=λb o e=>
 k b o (by rw[au (eN e nx),au (eN e nd)];exact e) (eN e nx)
end L2
end
section
namespace L2
open PySem PySem.Spec PyProof.Rows PySem.XL
def one(x:Addr)(P:Obj→Prop):HO:=.ext λh=>∃o,h.get? x=some o∧P o
def rP(e:h.get? x=some o)(p:P o):fm Pr w H h x (one x P):=
 ⟨⟨o,e,p⟩,⟨o,e⟩,λ_ _ ⟨o,e,p⟩ k=>⟨o,k o e,p⟩⟩
def o9(ax:eO Pr w H h)(e:H x=some (one x P)):∃o,h.get? x=some o∧P o:=(ax x _ e).1
def Ik(C:Addr)(od:OA)(tv:Value)(o:Obj):Prop:=o.cls=.ref C∧o.dict=od∧∃vs,o.data=.fields vs∧vs[1]? =some tv
def exc(C:Addr)(od:OA)(tv:Value)(x:Addr):HO:=one x (Ik C od tv)
def QJ(fl:Value)(o:Obj):Prop:=∃ts,o.data=.fields ts∧ts[3]? =some fl
def ent(fl:Value)(T:Addr):HO:=one T (QJ fl)
def ub(d:Addr)(fs:List (Str×V)):HO:=.ext λh=>∃mA,h.Ns1 d mA∧(∀f,jH Ày (mA f))∧Within mA (fs.map (·.1))∧fs.length≤1000
def QK(n:h.Ns1 d mA)(r:∀f,jH Ày (mA f))(wi:Within mA (fs.map (·.1)))(l:fs.length≤1000):fm Pr w H h d (ub d fs):=by
 refine⟨⟨mA,n,r,wi,l⟩,?_,λh1 h2 ⟨m,n,r⟩ k=>⟨m,n.at k,r⟩⟩;obtain⟨o,_,_,e,_⟩:=n;simp_all
def abT(ax:eO Pr w H h)(e:H d=some (ub d fs)):∃mA,h.Ns1 d mA∧(∀f,jH Ày (mA f))∧Within mA (fs.map (·.1))∧fs.length≤1000:=(ax d _ e).1
abbrev uc:LV:=[.type "Exception",.type "BaseException",.type "object"]
inductive QL(K:FR)(C N:Addr):Prop
 |mk (od:OA) (nm qn:Str) (bs sub:LV) (sn:LS) (ab:Bool) (col:Option Bool) (e0 e1 e2 e3 e5:Option Value) (_:K.lookup C=some ⟨.type "type",od,.cls ⟨nm,bs,.ref C::uc,N,qn,true,sn,sub,ab,col,false⟩,#[e0,e1,e2,e3,some (.builtin "Exception.__new__"),e5]⟩) (_:PySem.W.nsOkIn K N=true)
structure XC(K:FR)(C N:Addr):Prop where
 cl:QL K C N
 ga:PySem.W.nsIn K N "__getattribute__"=some none
 gt:PySem.W.nsIn K N "__getattr__"=some none
 sa:PySem.W.nsIn K N "__setattr__"=some none
structure DJ(K:FR)(N:Addr)(f:Str):Prop where
 own:PySem.W.nsIn K N f=some none
 base:typeLookup (.type "Exception") f=pure none
def abU{K:FR}{h:Heap}{N:Addr}{mg:MG}{n:Str}{v:Value}(X:K.In h)(G:h.Ns N mg)(e:PySem.W.nsIn K N n=some Än):mg n=some v:=by
 obtain⟨o,es,ep,ho,hd,_,hf⟩:=G;unfold PySem.W.nsIn at e;split at e
 ·rename_i c d nR n' sl q;have:=X _ _ q;rw[ho] at this;cases this;cases hd;split at e
  ·rename_i y he;rw[←hf];unfold nsFind findBy;simp_all
  ·simp_all
 ·cases e
def XC.obj{K:FR}{C N:Addr}(c:XC K C N):∃nm q bs sn sub ab col dd k0 k1 k2 k3 k5,∀h:Heap,K.In h→h.get? C=some (excClassObj nm q C N bs uc true sn sub ab col dd k0 k1 k2 k3 k5 "Exception.__new__")∧h.Ns N (h.nsMap N)∧
  h.nsMap N "__getattribute__"=none∧h.nsMap N "__getattr__"=none∧h.nsMap N "__setattr__"=none:=by
 obtain⟨dd,nm,qn,bs,sub,sn,ab,col,k0,k1,k2,k3,k5,ho,ax⟩:=c.cl;exact⟨nm,qn,bs,sn,sub,ab,col,dd,k0,k1,k2,k3,k5,λh X=>⟨X _ _ ho,.of_isNs (PySem.W.isNs_of_in X ax),PySem.W.nsMap_none_of_in X ax c.ga,PySem.W.nsMap_none_of_in X ax c.gt,PySem.W.nsMap_none_of_in X ax c.sa⟩⟩
def QM(p:Ik C od tv o)(T:Addr):Ik C od ū (o.mapFields (·.setIfInBounds 1 ū)):=by
 obtain⟨h1,h2,vs,h3,h4⟩:=p;have z:=(z6.mp h4).1;refine⟨(Xa _ _).trans h1,?_,_,uN h3 _,by simp[z]⟩;obtain⟨c,d,dt,sl⟩:=o;cases dt <;> first|exact h2|cases h3
def DK(S:LA)(ax:Į h)(same:∀b,b∉S→H2 b=H b)(iz:∀b,b∈S→H b=none∨∃φ,H b=some (.ext φ)) (new:∀b,b∈S→∀u,H2 b=some u→fm P w H2 h2 b u)(keep:∀b o u,H b=some u→b∉S→h.get? b=some o→h2.get? b=some o):eO P w H2 h2:=λb u q=>by
 by_cases hb:b∈S
 ·simp_all
 ·rw[same b hb] at q;have nS:∀c v,H c=some v→(∀φ,v≠ .ext φ)→c∉S:=λc v e ne z=>by
   grind
  refine(ax b u q).oR (λc v hc g=>?_) (λc e=>?_) λc xs e=>?_
  ·grind
  ·simp_all
  ·simp_all
def DL{fs:LA}{H H2:Hp}{h h2:Heap}(S:LA)(same:∀b,b∉S→H2 b=H b)(iz:∀b,b∈S→(H b=none∧h.get? b=none)∨∃φ,H b=some (.ext φ))(keep:∀b o,b∉S→b∉fs→h.get? b=some o→h2.get? b=some o) (slot:∀b o,b∉S→b∈fs→h.get? b=some o→∃sl,h2.get? b=some {o with slots:=sl})(there:∀b,b∈S→∀o,h.get? b=some o→∃o',h2.get? b=some o'):Un fs [] H H2 h h2:=by
 have nS:∀b o,h.get? b=some o→H b=none→b∉S:=λb o e n z=>by
  grind
 have Il:∀c v,H c=some v→(∀φ,v≠ .ext φ)→c∉S:=λc v e ne z=>by
  grind
 refine⟨λb o e n nb _=>keep b o (nS b o e n) nb e,λb o e n nb _=>slot b o (nS b o e n) nb e,λb o e n _=>by rw[same b (nS b o e n)];exact n,λb o e _=>?_,
  λb xs e=>by rw[same b (Il b _ e (λφ z=>by cases z))];exact e,λb o u e=>by rw[same b (Il b _ e (λφ z=>by cases z))];exact e,λb ps e=>⟨#[],by rw[same b (Il b _ e (λφ z=>by cases z)),e];simp⟩⟩
 by_cases hb:b∈S
 ·simp_all
 ·grind
def Kp(a:Addr)(H0 H:Hp):Prop:=∀b o,H0 b=some o→b≠a→H b=some o
def Im(H0:Hp)(a C:Addr)(od:OA)(H:Hp):Prop:=∃tv,H a=some (exc C od tv a)∧Kp a H0 H∧(tv=.none∨∃T fl,tv=.ref T∧T≠a∧H0 T=none∧H T=some (ent fl T))
def qu(fl:Value)(H0:Hp)(a C:Addr)(od:OA)(H:Hp):Prop:=∃T,H a=some Çe∧Kp a H0 H∧T≠a∧H0 T=none∧H T=some (ent fl T)
def qu.at_(f:qu fl H0 a C od H):Im H0 a C od H:=
 let ⟨T,h1,h2,h3,h4,h5⟩:=f
 ⟨_,h1,h2,.inr ⟨T,fl,rfl,h3,h4,h5⟩⟩
def abV(h:e.frame=e'.frame):noteFrame x e=noteFrame x e':=by
 unfold noteFrame PySem.frameOf;rw[h]
def rQ{x:Addr}{P:Obj→Prop}{H:Hp}(e:H x=some (one x P)):∃φ,H x=some (.ext φ):=⟨_,e⟩
section
variable{X:Cx}{pins:bI}{σ:St}{H H0:Hp}{s:Sh}{A:Around}{E:VP}{a C:Addr}{od:OA}
def DM{Q:Unit→Shared→Prop}{env en:Env}{outer:List Env}{L:Addr}(qh:X.stack=env::outer)(DN:env.frame=some L)(Io:en.frame=some L)(hA:A.frames=some X.stack)(I:Á H s)(f:Im H0 a C od H)(k:∀s' H',Á H' s'→qu Æb H0 a C od H'→Q () s'):wpAny Æ A (noteFrame Ě en) Q E s:=by
 rw[abV (Io.trans DN.symm)];obtain⟨tv,ha,kp,f⟩:=f;obtain⟨o,ge,pe⟩:=o9 I.ax ha;obtain⟨q1,q2,vs,q3,q4⟩:=id pe;have ff:s.heap.FunFrames X.base (env::outer):=by rw[←qh];exact I.stack
 have yw:A.frames=some (env::outer):=by rw[←qh];exact hA
 have QN:nO X.stack=(env::outer).filterMap (·.frame):=by rw[qh];rfl
 rcases f with rfl|⟨T0,fl,rfl,h1,h2,h3⟩
 ·refine Yq (z:=a) yw ff DN ge q3 q4 λh' T n=>?_;rw[←QN] at n;have hT:=I.ax.fresh n.new;have gT:=Og n.new;have Ip:=QM pe T;have hH:∀b,b∉[a,T]→(Ŭ) b=H b:=λb nb=>by
   have:b≠a∧b≠T:=by simpa using nb
   rw[au this.2,au this.1]
  have vi:(Ŭ) T=some ũ:=ao;have A3:(Ŭ) a=some Çe:=by rw[au (dJ n.ne),ao]
  obtain⟨oT,ts,t1,t2,t3⟩:=n.ent;have wZ:H0 T=none:=by
   cases e:H0 T with
   |none=>rfl
   |some u=>rw[kp T u e n.ne] at hT;cases hT
  refine k {s with heap:=h'} Ŭ (I.uV (s':={s with heap:=h'}) (ch:=[]) rfl (DL [a,T] hH Ċ Ś Ś λb hb o g=>?_) (DK [a,T] I.ax hH Ċ ϸ λb o u hb nb g=>?_) I.bare Ĵ)
   ⟨T,A3,λb o e nb=>?_,n.ne,wZ,vi⟩
  ·have:b=a∨b=T:=by simpa using hb
   rcases this with rfl|rfl
   ·exact .inr (rQ ha)
   ·simp_all
  ·have:b≠a∧b≠T:=by simpa using nb
   exact n.keep b o nf this.1 this.1 g
  ·have:b≠a∧b≠T:=by simpa using nb
   exact n.slot b o nf this.1 this.1 g
  ·have:b=a∨b=T:=by simpa using hb
   rcases this with rfl|rfl
   ·exact⟨_,n.exc⟩
   ·simp_all
  ·have:b=a∨b=T:=by simpa using hb
   rcases this with rfl|rfl
   ·exact .inr (rQ ha)
   ·simp_all
  ·have:b=a∨b=T:=by simpa using hb
   rcases this with rfl|rfl
   ·rw[A3] at hu;cases hu;exact rP n.exc Ip
   ·rw[vi] at hu;cases hu;exact rP t1 ⟨ts,t2,t3⟩
  ·have:b≠a∧b≠T:=by simpa using nb
   exact n.keep b o (λz=>by rw[I.C7 b z] at hb;cases hb) this.1 this.1 g
  ·rw[au (λz=>by simp_all),au nb];exact kp b o e nb
 ·cases h4:(fl==rawInt L) with
  |false=>
   obtain⟨oz,gz,zs,dz,z3⟩:=o9 I.ax h3;refine Yr yw ff DN ge q3 q4 gz dz z3 h4 h1 λh' T n tz kz=>?_;rw[←QN] at n;have hT:=I.ax.fresh n.new;have gT:=Og n.new;have Ip:=QM pe T;have hH:∀b,b∉[a,T,T0]→(ã) b=H b:=λb nb=>by
    have:b≠a∧b≠T∧b≠T0:=by simpa using nb
    rw[au this.2.1,au this.1,au this.2.2]
   have vi:(ã) T=some ũ:=ao;have A3:(ã) a=some Çe:=by rw[au (dJ n.ne),ao]
   have hT0:(ã) T0=some (ent .none T0):=by rw[au (dJ tz),au h1];exact ao
   obtain⟨oT,ts,t1,t2,t3⟩:=n.ent;obtain⟨oz',zs',z1',z2',z3'⟩:=kz;have wZ:H0 T=none:=by
    cases e:H0 T with
    |none=>rfl
    |some u=>rw[kp T u e n.ne] at hT;cases hT
   refine k {s with heap:=h'} ã (I.uV (s':={s with heap:=h'}) (ch:=[]) rfl (DL [a,T,T0] hH Ċ Ś Ś λb hb o g=>?_) (DK [a,T,T0] I.ax hH Ċ ϸ λb o u hb nb g=>?_) I.bare Ĵ)
    ⟨T,A3,λb o e nb=>?_,n.ne,wZ,vi⟩
   ·have:b=a∨b=T∨b=T0:=by simpa using hb
    rcases this with rfl|rfl|rfl
    ·exact .inr (rQ ha)
    ·simp_all
    ·exact .inr (rQ h3)
   ·have:b≠a∧b≠T∧b≠T0:=by simpa using nb
    exact n.keep b o nf this.1 this.2.2 g
   ·have:b≠a∧b≠T∧b≠T0:=by simpa using nb
    exact n.slot b o nf this.1 this.2.2 g
   ·have:b=a∨b=T∨b=T0:=by simpa using hb
    rcases this with rfl|rfl|rfl
    ·exact⟨_,n.exc⟩
    ·simp_all
    ·simp_all
   ·have:b=a∨b=T∨b=T0:=by simpa using hb
    rcases this with rfl|rfl|rfl
    ·exact .inr (rQ ha)
    ·simp_all
    ·exact .inr (rQ h3)
   ·have:b=a∨b=T∨b=T0:=by simpa using hb
    rcases this with rfl|rfl|rfl
    ·rw[A3] at hu;cases hu;exact rP n.exc Ip
    ·rw[vi] at hu;cases hu;exact rP t1 ⟨ts,t2,t3⟩
    ·rw[hT0] at hu;cases hu;exact rP z1' ⟨zs',z2',z3'⟩
   ·have:b≠a∧b≠T∧b≠T0:=by simpa using nb
    exact n.keep b o (λz=>by rw[I.C7 b z] at hb;cases hb) this.1 this.2.2 g
   ·rw[au (λz=>by simp_all),au nb,au (λz=>by simp_all)];exact kp b o e nb
  |true=>
   have h4:=eq_of_beq h4;subst h4;obtain⟨oz,gz,zs,dz,z3⟩:=o9 I.ax h3;exact wpAny_noteFrame_inFlight DN ge q3 q4 gz dz z3 (k s H I ⟨T0,ha,kp,h1,h2,h3⟩)
def A4{Q:Unit→Shared→Prop}{fl:Value}(fr:OA)(I:Á H s)(f:qu fl H0 a C od H)(k:∀s' H',Á H' s'→qu (fr.elim .none λf=>rawInt f) H0 a C od H'→Q () s'):wpAny Æ A (setFlight Ě fr) Q E s:=by
 obtain⟨T,ha,kp,aQ,wZ,hT⟩:=f;obtain⟨o,ge,q1,q2,vs,q3,q4⟩:=o9 I.ax ha;obtain⟨oz,gz,zs,dz,z3⟩:=o9 I.ax hT;have zz:3<zs.size:=(z6.mp z3).1;unfold setFlight;refine aP (uO ge q3 q4 ?_);rw[af (show(Value.ref T !=Value.none)=true by simp)];refine Cu gz dz zz ?_;have uR:∀b,b≠T→(s.heap.update T (Obj.mapFields (·.setIfInBounds 3 (fr.elim .none λf=>rawInt f)))).get? b=s.heap.get? b:=λb n=>z5 _ _ (dJ n);have gT:(s.heap.update T (Obj.mapFields (·.setIfInBounds 3 (fr.elim .none λf=>rawInt f)))).get? T=_:=Cw _ gz (Gr (uN dz _));have pT:QJ (fr.elim .none λf=>rawInt f) (oz.mapFields (·.setIfInBounds 3 (fr.elim .none λf=>rawInt f))):=⟨_,uN dz _,by simp[zz]⟩;have hH:∀b,b∉[T]→(ϛ (ent (fr.elim .none λf=>rawInt f) T)) b=H b:=λb nb=>by
  have:b≠T:=by simpa using nb
  rw[au this]
 refine k {s with heap:=s.heap.update T (Obj.mapFields (·.setIfInBounds 3 (fr.elim .none λf=>rawInt f)))} (ϛ (ent (fr.elim .none λf=>rawInt f) T)) (I.uV (s':={s with heap:=s.heap.update T (Obj.mapFields (·.setIfInBounds 3 (fr.elim .none λf=>rawInt f)))}) (ch:=[]) rfl (DL [T] hH Ċ Ś Ś λb hb o g=>?_) (DK [T] I.ax hH Ċ ϸ λb o u hb nb g=>?_) I.bare Ĵ)
   ⟨T,?_,λb o e nb=>?_,aQ,wZ,ao⟩
 ·have:b=T:=by simpa using hb
  subst this;exact .inr (rQ hT)
 ·have:b≠T:=by simpa using nb
  exact(uR b this).trans g
 ·have:b≠T:=by simpa using nb
  exact⟨o.slots,(uR b this).trans g⟩
 ·have:b=T:=by simpa using hb
  subst this;exact⟨_,gT⟩
 ·have:b=T:=by simpa using hb
  subst this;exact .inr (rQ hT)
 ·have:b=T:=by simpa using hb
  subst this;rw[ao] at hu;cases hu;exact rP gT pT
 ·have:b≠T:=by simpa using nb
  exact(uR b this).trans g
 ·rw[au Åb];exact ha
 ·rw[au (λz=>by rw[z,wZ] at e;cases e)];exact kp b o e nb
end
def gf(P:Pg)(w:Wd):mT:=λouter H s E e s'=>∃a C od H0 H',e=.ref a∧s'.os=s.os∧AllBare s'.gens∧Un (nO outer) [] H H' s.heap s'.heap∧eO P w H' s'.heap∧qu .none H0 a C od H'∧(∀d,od=some d→d≠a)∧E ý od H0
def yL(X:Cx)(E:XK)(e:Value)(s:Sh):Prop:=∃a C od H0 H σ,e=.ref a∧Inv X [] σ H s∧Im H0 a C od H∧(∀d,od=some d→d≠a)∧E ý od H0
abbrev Cx.w6(X:Cx)(E:XK):Cx:=X.iA (yL X E)
def Cx.DO(X:Cx):Prop:=X.stack=X.env::X.outer∧X.env.frame=some X.env.locals
def Inv.Iq(I:Á H s):Inv X [] σ H s:=I.Hc λp hp=>absurd hp Â
def qv{X:Cx}{E:XK}:tP (gf X.prog X.w) (X.w6 E) E:=λpins σ H s e s' I h=>by
 obtain⟨a,C,od,H0,H',e1,e2,e3,e4,e5,e6,e7,e8⟩:=h;exact⟨a,C,od,H0,H',σ,e1,(I.lI.uV (ch:=[]) e2 e4 e5 e3 Ĵ).Iq,e6.at_,e7,e8⟩
def QO(ow:X.DO):PassesOwn Æ X.A X.env (yL X E):=λe s h=>by
 obtain⟨a,C,od,H0,H,σ,rfl,I,f,e7,e8⟩:=h;refine DM ow.1 ow.2 ow.2 I.ok.frames I f λs' H' I' f'=>?_;obtain⟨T,ha,_⟩:=id f';obtain⟨o,ge,q1,q2,vs,q3,q4⟩:=o9 I'.ax ha;refine aP (uO ge q3 q4 ?_);rw[ah (show ¬(Value.ref T==Value.none)=true from dZ)];refine A4 X.env.frame I' f' λAB nZ yM Ir=>?_;exact⟨a,C,od,H0,nZ,σ,rfl,yM,Ir.at_,e7,e8⟩
def w8{CX:mT}{P:Pg}{w:Wd}{K:FR}{mg:MG}{base:Heap}{N:LS}{cY:Str}{scope:Scope}{f:Addr}{cd:Value}{A:Around}{outer:List Env}{s:Sh}{H:Hp}{E:XK}:
  (Ī scope f cd A outer s H E).DO:=⟨rfl,rfl⟩
def ab1{P:Pg}{w:Wd}{K:FR}{mg:MG}{base:Heap}{N:LS}{cY:Str}{scope:Scope}{f:Addr}{cd:Value}{A:Around}{outer:List Env}{s:Sh}{H:Hp}{E:XK}{e:Value}{s1:Sh}(h:yL (ki ē P w K mg base N cY scope f cd A outer s H E) E e s1):(ki ē P w K mg base N cY scope f cd A outer s H E).xe e s1:=by
 obtain⟨a,C,od,H0,H1,σ,rfl,I,f,e7,e8⟩:=h;show wpAny _ _ (leaving _ _) _ _ s1;unfold leaving;refine aP (DM (X:=ki ē P w K mg base N cY scope _ cd A outer s H E) w8.1 w8.2 w8.2 I.ok.frames I f λs' H' I' f'=>?_);refine A4 (X:=ki ē P w K mg base N cY scope _ cd A outer s H E) none I' f' λAB nZ yM Ir=>?_;exact⟨a,C,od,H0,nZ,rfl,yM.os,yM.bare,yM.base,yM.ax,Ir,e7,e8⟩
def br.qw{P:Pg}{w:Wd}{K:FR}{mg:MG}{base:Heap}{x cY:Str}{st:Stmt}{f:Addr}{fd:FD}{N ps:LS}{k:Nat}{sp:Sp}(F:Áb fd)(S:bC N ps Án)(tQ:∀(aG:Value)(A:Around)(outer:List Env)(s:Sh)(H:Hp)(vs:aq)(Q:VK)(E:XK),dw k ĺ→sp vs H Q E→
   ∃t,jI ((ki ē P w K mg base N cY Án f aG A outer s H E).w6 E) Äz t∧t {nx:=λ_ H'=>Q .aJ H',rt:=Q} ŕ H) (len:∀vs H Q E,sp vs H Q E→vs.length=ps.length:=by intro _ _ _ _ h;first|(cases h;subst_vars;rfl)|(repeat first|(obtain⟨rfl,_⟩:=h;rfl)|obtain⟨_,h⟩:=h)):Ê ē (k+1) f fd ps sp:=by
 obtain⟨oc,od,kV,iO,pm,an,aG,ct,mG,rfl,lk,j8⟩:=F.ex;refine HC lk j8 S len λA outer s H vs Q E hr jd=>?_;obtain⟨t,h,q⟩:=tQ aG A outer s H vs Q E hr jd;exact⟨t,λpins s1 σ H1 D I hw=>i6 (h pins s1 σ H1 D (I.iA _) hw) (λ_ _ q=>q.lI) λe s2 z=>ab1 z,q⟩
def ab2(E:XK)(C:Addr)(te:TE):TS:=λ_ σ H=>te σ H λv H1=>∃a od,v=.ref a∧H1 a=some (exc C od .none a)∧(∀d,od=some d→d≠a)∧E ý od H1
def jL{X:Cx}{E:XK}{e:Expr}{te:TE}{C N:Addr}{pos:Pos}(hh:X.A.handled=none)(c:XC X.K C N)(he:PE (X.w6 E) e te):PS (X.w6 E) (.Raise (some e) none pos) (ab2 E C te):=by
 intro pins s σ H D I h;obtain⟨nm,q,bs,sn,sub,ab,col,dd,k0,k1,k2,k3,k5,cls⟩:=c.obj;rw[arm_exec_Raise];refine aP (Ou (Yo (C:=C) (nm:=nm) (q:=q) (N:=N) (bs:=bs) (bm:=uc) (hdct:=true) (sn:=sn) (sub:=sub) (ab:=ab) (col:=col) (dd:=dd) (k0:=k0) (k1:=k1) (k2:=k2) (k3:=k3) (k5:=k5) (newId:="Exception.__new__") Ø hh
  (aP (aL (he pins s σ H _ I h) λu s1 ⟨v,H1,I1,rv,a,od,ev,ha,hd,xr⟩=>aP (Ou (c7 ?_))))))
 subst ev;obtain rfl:u=Value.ref a:=rv;obtain⟨o,ge,q1,q2,vs,q3,q4⟩:=o9 I1.ax ha;exact⟨a,o,vs,rfl,(cls _ I1.fW).1,ge,q1,q3,q4,a,C,od,H1,H1,σ,rfl,I1.lI.Iq,⟨.none,ha,λb o e _=>e,.inl rfl⟩,hd,xr⟩
def Inv.DP{X:Cx}{pins:bI}{σ:St}{H H2:Hp}{s:Sh}{h2:Heap}{t2:Nat}(S:LA)(I:Á H s)(same:∀b,b∉S→H2 b=H b)(iz:∀b,b∈S→(H b=none∧s.heap.get? b=none)∨∃φ,H b=some (.ext φ)) (new:∀b,b∈S→∀u,H2 b=some u→Ϻ H2 h2 b u)(keep:∀b o,b∉S→s.heap.get? b=some o→h2.get? b=some o) (there:∀b,b∈S→∀o,s.heap.get? b=some o→∃o',h2.get? b=some o'):Á H2 {s with heap:=h2,toks:=t2}:=
 I.uV (s':={s with heap:=h2,toks:=t2}) (ch:=[]) rfl (DL S same iz (λb o nb _ g=>keep b o nb g) (λb o nb _ g=>⟨o.slots,keep b o nb g⟩) there)
  (DK S I.ax same (λb hb=>(iz b hb).imp (·.1) id) new λb o u _ nb g=>keep b o nb g) I.bare Ĵ
def Iu{K:FR}{C N:Addr}(c:XC K C N):PySem.W.nsOkIn K N=true:=by
 obtain⟨_,_,_,_,_,_,_,_,_,_,_,_,_,_,h⟩:=c.cl;exact h
section
def ab3{K:FR}{h:Heap}{f:Addr}(XK:K.In h)(hf:PySem.W.isFn K ą=true):∃o,h.get? f=some o∧o.cls=.type "function":=by
 have e:=ya.mp hf;unfold PySem.W.typeIn at e;cases q:K.lookup f with
 |none=>
  simp_all
 |some o=>
  simp only[q] at e;exact⟨o,XK _ _ q,aO e⟩
def ab4(C:Addr)(sp:Sp)(iR:aq)(E:XK)(t:TA):TE:=λσ H Q=>t σ H λvs H1=>vs.length≤sizeLine∧∀x,H1 x=none→
 sp (.ref x::(vs++iR)) (upd H1 x Ŏ) (λv H2=>v=.aJ∧Q Ū H2) E
def ab5{pins:bI}{σ:St}{H:Hp}{s:Sh}{Q:VK}{us:LV}{vs:aq}(c:XC X.K C N)(mI:PySem.W.nsIn X.K N "__init__"=some Áw)(fn:PySem.W.isFn X.K ą=true)(F:þ fd ps sp)(hr:dw (k+1) X.A)(hb:ŝ ds)(hd:ba iR ds)(hx:tP CX X E) (I:Á H s) (r:ba vs us) (ud:vs.length≤sizeLine)(h:∀x,H x=none→sp (.ref x::(vs++iR)) (Áa Ŏ) (λv H2=>v=.aJ∧Q Ū H2) E):
  wpAny Æ X.A (call ý us) (ð Q) X.xe s:=by
 obtain⟨nm,q,bs,sn,sub,ab,col,dd,k0,k1,k2,k3,k5,cls⟩:=c.obj;obtain⟨c1,c2,_⟩:=cls s.heap I.fW;obtain⟨oF,gF,cF⟩:=ab3 I.fW fn;have wq:=abU I.fW c2 mI;have hq:=h Ö (I.ax.fresh (Xn _));have g2:((s.heap.push (nN us)).push Âf).get? Ö=some Âf:=by
  have z:=g9 (s.heap.push (nN us)) (o:=p9 C s.heap.objs.size) rfl;simp_all
 have I2:Á (upd H Ö (exc C none .none Ö)) {s with heap:=(s.heap.push (nN us)).push Âf}:=
  I.laid (t':=s.toks) (λb u q=>dh _ (dh _ q)) (Xn _) (rP g2 ⟨rfl,rfl,_,rfl,rfl⟩)
 have r2:ba (V.ref Ö::(vs++iR)) (Value.ref Ö::(us++ds)):=.cons rfl (r.append hd);have hl:(Value.ref Ö::us++ds).length=ps.length:=by
  have e:=r2.length;rw[F.len _ _ _ _ hq] at e;simp_all
 obtain⟨hh,g,d,tk,os⟩:=s;refine Cr (Yn PySem.F.excBase_Exception c1 c2 wq gF cF (wb (F.run _ X.stack _ _ ⟨Value.ref (hh.objs.size+1)::us,[]⟩ (Value.ref (hh.objs.size+1)::(us++ds)) _ _ E (hr.make C us [])
  (I2.AA.make C us []) (hb _ (Value.ref (hh.objs.size+1)::us) I2.fW hl) r2 hq) λr s' k9=>?_) (by rw[←r.length];exact ud))
 cases r with
 |error e=>exact hx pins σ _ _ e s' I2 k9
 |ok fl=>
  cases fl with
  |ret u=>
   obtain⟨v,H',I3,rv,ev,q3⟩:=I2.after k9;subst ev;exact⟨rv,⟨V.ref (hh.objs.size+1),H',I3,rfl,q3⟩⟩
  |next=>exact False.elim k9
  |brk=>exact False.elim k9
  |cont=>exact False.elim k9
def DQ(c:XC X.K C N)(mI:PySem.W.nsIn X.K N "__init__"=some Áw)(fn:PySem.W.isFn X.K ą=true)(kp:PySem.W.keepIn X.K ý=true)(F:þ fd ps sp)(hr:dw (k+1) X.A)(hg:Gl X x)(hm:X.mg x=some ý)(hb:ŝ ds)(hd:ba iR ds)(hx:tP CX X E)(ha:PA X (e::es) t) (ju:(x==("__debug__":Str))=false:=by decide) (he:starEach (e::es) X.env=(false,eval e X.env)::starEach es X.env:=by rfl) (df:(backTo pos ô).any (·.1)=false:=by rfl):
  PE X (.Call ž (e::es) [] pos) (ab4 C sp iR E t):=by
 show Ô;refine yb (wy I hg hm ?_ ju);refine PySem.W.callWith_K (h₀:=X.base) I.ok.mod.uS kp (aL (ha pos pins s σ H _ I h) λus s1 ⟨vs,H1,I1,r,q⟩=>Ãn) he df;exact ab5 c mI fn F hr hb hd hx I1 r q.1 q.2
def ab6(K:FR)(t:TA):TE:=λσ H Q=>t σ H λvs H1=>∃a C N od tv,vs=[.ref a]∧H1 a=some (exc C od tv a)∧XC K C N∧Q .aJ H1
def ab7{pl:Sem Bool}(hg:Gl X "Exception")(hm:X.mg "Exception"=none)(hf:PySem.W.findCls X.K (.type "Exception") (.type "type") "__init__"=some (.val (.builtin "Exception.__init__")))(ha:PA X (e::es) t)(rJ:typeOf (.type "Exception")=pure (.type "type")) (qh:Manifest.isStub "Exception"=false) (hbv:bootBuiltins "Exception"=some (.type "Exception"))(he:starEach (e::es) X.env=(false,eval e X.env)::starEach es X.env:=by rfl) (df:(backTo pos ô).any (·.1)=false:=by rfl)(ht:eval (.Call (.Attribute (.Name "Exception" p) "__init__" iP) (e::es) [] pos) X.env=(do
   let ov ←eval (.Name "Exception" p) X.env
   standAt iP.atName
   let (f,first) ←holding [ov] (getMethod ov "__init__" pl)
   callWith pos f first (backTo pos (starEach (e::es) X.env)) (backToKw pos ϲ)):=by rfl):
  PE X (.Call (.Attribute (.Name "Exception" p) "__init__" iP) (e::es) [] pos) (ab6 X.K t):=by
 show Ô;refine PySem.W.methodCall_KW (pl:=pl) (Àg hbv ?_) ht;obtain⟨m,F⟩:=I.fr;refine PySem.W.method_type F I.ok.mod.uS rJ qh hf Ò ?_;refine aoA (aL (ha pos pins _ σ H _ (I.tok _) h) λus s1 ⟨vs,H1,I1,r1,a,C,N,od,tv,ev,A5,c,q⟩=>?_) he df;subst ev;obtain⟨u,rfl,ru⟩:=vals1 r1;cases ru;obtain⟨nm,qn,bs,sn,sub,ab,col,dd,k0,k1,k2,k3,k5,cls⟩:=c.obj;obtain⟨c1,c2,_⟩:=cls s1.heap I1.fW;obtain⟨o,ge,q1,q2,vj,q3,q4⟩:=o9 I1.ax A5;have zz:=(z6.mp q4).1;obtain⟨hh,g,d,tk,os⟩:=s1;refine Yp PySem.F.excBase_Exception c1 ge q1 q3 Ä ?_;have gp:=dh (h:=hh) (nN []) ge;have gx:((hh.push (nN [])).update a (Obj.mapFields (·.setIfInBounds 0 (.ref hh.objs.size)))).get? a=_:=Cw _ gp (Gr (uN q3 _));refine⟨.aJ,H1,I1.DP (t2:=tk) [a] (λb _=>rfl) Ċ ϸ Åu λb hb o g=>?_,rfl,q⟩
 ·have:b=a:=by simpa using hb
  subst this;exact .inr (rQ A5)
 ·have:b=a:=by simpa using hb
  subst this;rw[A5] at hu;cases hu;refine rP gx ⟨(Xa _ _).trans q1,?_,_,uN q3 _,?_⟩
  ·obtain⟨cc,cd,dt,sl⟩:=o;cases dt <;> first|exact q2|cases q3
  ·simp_all
 ·have:b≠a:=by simpa using nb
  rw[z5 _ _ (dJ this)];exact dh _ g
 ·simp_all
def ab9(K:FR)(ta tv:TE)(g:Str):TS:=λD σ H=>tv σ H λy H1=>ta σ H1 λv H2=>∃a C N te,v=.ref a∧H2 a=some (exc C none te a)∧XC K C N∧DJ K N g∧
 ∀d,H2 d=none→d≠a→D.nx σ (upd (upd H2 a (exc C (some d) te a)) d (ub d (hZ g y [])))
def aca{g:Str}{i5:Expr}{kU:Pos}(ha:PE X o ta)(hv:PE X i5 tv)(hs:swapsWith i5 (some (.Attribute o g kU)) pos.line X.env=pure false):PS X (.Assign [.Attribute o g kU] i5 pos) (ab9 X.K ta tv g):=by
 intro pins s σ H D I h;refine Xm (aL (hv pins s σ H _ I h) λu s1 ⟨y,H1,I1,ry,q⟩=>aL (ha pins s1 σ H1 _ I1 q) λov s2 ⟨x,H2,I2,rx,a,C,N,te,ex,ea,c,n,q2⟩=>?_) hs;subst ex;obtain rfl:ov=Value.ref a:=rx;obtain⟨nm,qn,bs,sn,sub,ab,col,dd,k0,k1,k2,k3,k5,cls⟩:=c.obj;obtain⟨c1,c2,c3,c4,c5⟩:=cls s2.heap I2.fW;obtain⟨o,ge,p1,p2,vj,p3,p4⟩:=o9 I2.ax ea;have tw:s2.heap.nsMap N g=none:=PySem.W.nsMap_none_of_in I2.fW (Iu c) n.own;obtain⟨hh,gg,dr,tk,os⟩:=s2;refine Yx PySem.F.store_Exception c1 c2 c5 tw n.base ge p1 (λc z=>(by rw[p3] at z;cases z)) p2 λh' k7 w1 w2 w3=>?_;have dn:H2 hh.objs.size=none:=I2.ax.fresh (bO _);have da:hh.objs.size≠a:=sX (di ge);have e1:(upd (upd H2 a (exc C (some hh.objs.size) te a)) hh.objs.size (ub hh.objs.size (hZ g y []))) a=some (exc C (some hh.objs.size) te a):=by rw[au (dJ da),ao]
 refine⟨σ,_,I2.DP (h2:=h') (t2:=k7) [a,hh.objs.size] (λb nb=>?_) Ċ (λb hb u' hu=>?_) Åu (λb hb o g=>?_),q2 hh.objs.size dn da⟩
 ·have:b≠a∧b≠hh.objs.size:=by simpa using nb
  rw[au this.2,au this.1]
 ·have:b=a∨b=hh.objs.size:=by simpa using hb
  rcases this with rfl|rfl
  ·exact .inr (rQ ea)
  ·exact .inl ⟨dn,Og (bO _)⟩
 ·have:b=a∨b=hh.objs.size:=by simpa using hb
  rcases this with rfl|rfl
  ·rw[e1] at hu;cases hu;exact rP w2 ⟨p1,rfl,vj,p3,p4⟩
  ·rw[ao] at hu;cases hu;refine QK w1 (λf=>?_) (λz hz=>?_) (by show 1≤1000;decide)
   ·rw[HA];by_cases e:f=g
    ·rw[af e,af e];exact ry
    ·rw[ah e,ah e];exact True.intro
   ·by_cases e:z=g
    ·rw[e];exact(Az g y []).1
    ·rw[ah e] at hz;exact absurd rfl hz
 ·have:b≠a∧b≠hh.objs.size:=by simpa using nb
  exact w3 b o this.1 g
 ·have:b=a∨b=hh.objs.size:=by simpa using hb
  rcases this with rfl|rfl
  ·exact⟨_,w2⟩
  ·exact absurd (di g) (qV _)
def acb(K:FR)(ta tv:TE)(g:Str):TS:=λD σ H=>tv σ H λy H1=>ta σ H1 λv H2=>∃a C N d te fs,v=.ref a∧H2 a=some (exc C (some d) te a)∧d≠a∧H2 d=some (ub d fs)∧fs.length<1000∧XC K C N∧DJ K N g∧
 D.nx σ (upd H2 d (ub d (hZ g y fs)))
def acd{g:Str}{i5:Expr}{kU:Pos}(ha:PE X o ta)(hv:PE X i5 tv)(hs:swapsWith i5 (some (.Attribute o g kU)) pos.line X.env=pure false):PS X (.Assign [.Attribute o g kU] i5 pos) (acb X.K ta tv g):=by
 intro pins s σ H D I h;refine Xm (aL (hv pins s σ H _ I h) λu s1 ⟨y,H1,I1,ry,q⟩=>aL (ha pins s1 σ H1 _ I1 q) λov s2 ⟨x,H2,I2,rx,a,C,N,d,te,fs,ex,ea,ne,ed,fl,c,n,q2⟩=>?_) hs;subst ex;obtain rfl:ov=Value.ref a:=rx;obtain⟨nm,qn,bs,sn,sub,ab,col,dd,k0,k1,k2,k3,k5,cls⟩:=c.obj;obtain⟨c1,c2,c3,c4,c5⟩:=cls s2.heap I2.fW;obtain⟨o,ge,p1,p2,vj,p3,p4⟩:=o9 I2.ax ea;obtain⟨mA,nA,rA,wA,lA⟩:=abT I2.ax ed;have tw:=PySem.W.nsMap_none_of_in I2.fW (Iu c) n.own;have aC:a≠C:=λz=>by
  grind
 obtain⟨hh,gg,dr,tk,os⟩:=s2;have lz:(fs.map (·.1)).length≤sizeLine:=by rw[aA,wc];omega
 refine Yy PySem.F.store_Exception c1 c2 c5 tw n.base ge p1 (λc z=>Ç) p2 ne nA wA lz aC λh' k7 w1 w3=>?_;refine⟨σ,_,I2.DP (h2:=h') (t2:=k7) [d] (λb nb=>?_) Ċ (λb hb u' hu=>?_) Åu (λb hb o g=>?_),q2⟩
 ·have:b≠d:=by simpa using nb
  rw[au this]
 ·have:b=d:=by simpa using hb
  subst this;exact .inr ⟨_,ed⟩
 ·have:b=d:=by simpa using hb
  subst this;rw[ao] at hu;cases hu;refine QK w1 (λf=>?_) (λz hz=>?_) (gW (HB g y fs) fl)
  ·rw[HA];by_cases e:f=g
   ·rw[af e,af e];exact ry
   ·simp_all
  ·by_cases e:z=g
   ·rw[e];exact(Az g y fs).1
   ·rw[ah e] at hz;exact(Az g y fs).2 z (wA z hz)
 ·simp_all
 ·have:b=d:=by simpa using hb
  subst this;obtain⟨o',_,_,e',_⟩:=w1;simp_all
end
abbrev Cx.qx(X:Cx)(a:Addr):Cx:={X with A:=X.A.mark (some Ě),calm:=false,xe:=λ_ _=>False}
def Cx.Ok.qx{X:Cx}(ok:X.Ok)(a:Addr):(X.qx a).Ok:=
 ⟨ok.mod,ok.kind,ok.glob,ok.blt,ok.above,ok.inj,ok.has,ok.yk,λh=>(by cases h),ok.frames,ok.Am,ok.An,ok.bs,ok.qe,ok.yl,ok.ym,ok.nP,ok.uT⟩
def Inv.qx{X:Cx}{pins:bI}{σ:St}{H:Hp}{s:Sh}(I:Á H s)(a:Addr):Inv (X.qx a) pins σ H s:=⟨I.ok.qx a,I.os,I.bare,I.base,I.loc,I.cell,I.free,I.lH,I.pin,I.ax,I.len⟩
def Inv.yN(ok:X.Ok)(I:Inv (X.qx a) pins σ H s):Á H s:=⟨ok,I.os,I.bare,I.base,I.loc,I.cell,I.free,I.lH,I.pin,I.ax,I.len⟩
def ace{M:Model}{A:Around}{E:VP}{nm q QP q':Str}{C N C1 N1:Addr}{bs QQ:LV}{hdct acf:Bool}{sn QR:LS}{sub QS:LV}{ab QT:Bool}{col QU:Option Bool}{dd rM:OA}{k0 k1 k2 k3 k5 QV QW QX QY QZ:Option Value}{newId acg:String}{h:Heap} {g:Array GenState} {d:Drawn} {t:Nat} {os:OsState} {e:Addr} {oe:Obj} {Q:Bool→Shared→Prop}(hC:h.get? C=some (excClassObj nm q C N bs uc hdct sn sub ab col dd k0 k1 k2 k3 k5 newId)) (Q0:h.get? C1=some (excClassObj QP q' C1 N1 QQ uc acf QR QS QT QU rM QV QW QX QY QZ acg))(he:h.get? e=some oe) (Ah:oe.cls=.ref C) (ne:C≠C1)(hq:Q false ⟨h,g,d,t,os⟩):ſ (excMatches Èi (.ref C1)) Q E ⟨h,g,d,t,os⟩:=by
 have G3:(Value.ref C1::uc).contains (.type "BaseException")=true:=by rw[z4,show uc.contains (.type "BaseException")=true by decide,W8]
 have G2:(Value.ref C::uc).contains (.ref C1)=false:=by
  grind
 have f:=tc_notTuple;unfold excMatches
 repeat (first|(with_reducible refine sW he ?_;rw[Ah])|with_reducible refine sW Q0 ?_|with_reducible refine sW hC ?_|(with_reducible refine Od Q0 ?_;rw[G3])|(with_reducible refine Od hC ?_;rw[G2])|wp_step)
 exact hq
abbrev TH:=Hp→Addr→Addr→OA→TS
def PH(X:Cx)(DR:List ExceptHandler)(th:TH):Prop:=
 ∀(pins:bI)(s:Sh)(σ:St)(H H0:Hp)(a C N:Addr)(od:OA)(D:Ends),Á H s→XC X.K C N→qu .none H0 a C od H→th H0 a C od D σ H→
  wpAny Æ X.A (handleBy Ě X.env DR) Åd X.xe s
def ach:TH:=λ_ _ _ _ _ _ _=>False
def aci:PH X [] ach:=λ_ _ _ _ _ _ _ _ _ _ _ _ _ h=>h.elim
def acj(C1:Addr)(ts:TS)(th:TH):TH:=λH0 a C od D σ H=>(C=C1→∀H',qu .none H0 a C od H'→ts D σ H')∧(C≠C1→th H0 a C od D σ H)
theorem SP.yN(ok:X.Ok)(h:SP (X.qx a) pins D f s'):SP X pins D f s':=by
 cases f with
 |next=>obtain⟨σ',H',I,q⟩:=h;exact⟨σ',H',I.yN ok,q⟩
 |brk=>obtain⟨σ',H',I,q⟩:=h;exact⟨σ',H',I.yN ok,q⟩
 |cont=>obtain⟨σ',H',I,q⟩:=h;exact⟨σ',H',I.yN ok,q⟩
 |ret u=>obtain⟨v,σ',H',I,r,q⟩:=h;exact⟨v,σ',H',I.yN ok,r,q⟩
section
variable{X:Cx}{C1 N1:Addr}{x:Str}{p pos:Pos}{b0:Stmt}{Q1:List Stmt}{bG:List ExceptHandler}{ts:TS}{th:TH}
def DS(c1:XC X.K C1 N1)(hg:Gl X x)(hm:X.mg x=some (.ref C1))(hs:∀a,jI (X.qx a) (b0::Q1) ts)(hr:PH X bG th)(ju:(x==("__debug__":Str))=false:=by decide):
  PH X (.ExceptHandler (some ž) none (b0::Q1) pos::bG) (acj C1 ts th):=by
 intro pins s σ H H0 a C N od D I c f h;refine wpAny_handleBy_cons (codeAny_handlers_test (wy (X:=X.qx a) (I.qx a) hg hm ?_ ju)) (by intro q;cases q);obtain⟨nm,qn,bs,sn,sub,ab,col,dd,k0,k1,k2,k3,k5,cls⟩:=c.obj;obtain⟨QP,qn',QQ,QR,QS,QT,QU,rM,QV,QW,QX,QY,QZ,ack⟩:=c1.obj;obtain⟨d1,_⟩:=cls s.heap I.fW;obtain⟨d2,_⟩:=ack s.heap I.fW;obtain⟨T,ha,kp,ne,wZ,hT⟩:=id f;obtain⟨o,ge,q1,q2,vj,q3,q4⟩:=o9 I.ax ha;by_cases e:C=C1
 ·subst e;obtain⟨hh,g,d,tk,os⟩:=s;refine wpAny_excMatches_sub_self d1 ge q1 Ø ?_;refine codeAny_handlers_suite ?_;refine A4 (X:=X) none I f λs' H' I' f'=>?_;refine i6 (hs a pins s' σ H' D (I'.qx a) (h.1 rfl H' f')) (λfl s2 q=>q.yN I'.ok) λ_ _ z=>False.elim z
 ·obtain⟨hh,g,d,tk,os⟩:=s;refine ace d1 d2 ge q1 e ?_;exact hr pins _ σ H H0 a C N od D I c f (h.2 e)
end
def Q2(X:Cx)(gJ:List Stmt)(tb:XK→TS):Prop:=
 ∀(pins:bI)(s:Sh)(σ:St)(H:Hp)(D:Ends)(E:XK),Á H s→tb E D σ H→wpAny Æ X.A (execs gJ X.env) Åd
  (λe s'=>∃a C od H0 H',e=.ref a∧Á H' s'∧qu .none H0 a C od H'∧(∀d,od=some d→d≠a)∧E ý od H0) s
def acm(K:FR)(th:TH)(D:Ends)(σ:St):XK:=λcv od H0=>∃C N,cv=.ref C∧XC K C N∧∀a H',(∀d,od=some d→d≠a)→qu .none H0 a C od H'→th H0 a C od D σ H'
def acn(K:FR)(tb:XK→TS)(th:TH):TS:=λD σ H=>tb (acm K th D σ) D σ H
def aco(ow:X.DO)(hb:Q2 X gJ tb)(hh:PH X (h0::hs) th):PS X (.Try gJ (h0::hs) [] [] pos) (acn X.K tb th):=by
 intro pins s σ H D I h;refine wpAny_Try_except (i6 (hb pins s σ H D _ I h) (λf s1 q=>?_) λe s1 q=>?_)
 ·cases f with
  |next=>exact CA q
  |brk=>exact q
  |cont=>exact q
  |ret v=>exact q
 ·obtain⟨a,C,od,H0,H1,rfl,I1,f1,hd,C',N,ec,c,hk⟩:=q;cases ec;refine DM ow.1 ow.2 ow.2 I1.ok.frames I1 f1.at_ λs2 H2 I2 f2=>?_;refine A4 none I2 f2 λs3 H3 I3 f3=>?_;exact hh pins s3 σ H3 H0 a C N od D I3 c f3 (hk a H3 hd f3)
section
def acp(hN:X.N.Nodup)(hi:X.N[i]? =some x)(hx:Loc X.env.scope x)(F:a8 X.prog X.w X.K X.mg X.base (gf X.prog X.w) k f fd ps sp)(hr:dw k X.A)(hg:Gl X g)(hm:X.mg g=some ą)(hk:PySem.W.keepIn X.K ą=true)(hb:ŝ [])(ha:PA X.rD (e::es) t)(hs:swapsWith (.Call (.Name g p) (e::es) [] pos) (some (.Name x px)) vc.line X.env=pure false:=by rfl) (hf:X.fn x=true∨X.env.scope.names.lookup x=some .local:=by first|exact .inl rfl|exact .inr rfl|assumption)(ju:(g==("__debug__":Str))=false:=by decide) (he:starEach (e::es) X.env=(false,eval e X.env)::starEach es X.env:=by rfl) (df:(backTo pos ô).any (·.1)=false:=by rfl):
  Q2 X [.Assign [.Name x px] (.Call (.Name g p) (e::es) [] pos) vc] (λE=>yp (gY sp [] E t) (oX i)):=by
 intro pins s σ H D E I h;have g8:wpAny Æ X.A (eval (.Call (.Name g p) (e::es) [] pos) X.env) (ð λv H1=>D.nx Ļ H1) (λe s'=>∃a C od H0 H',e=.ref a∧Á H' s'∧qu .none H0 a C od H'∧(∀d,od=some d→d≠a)∧E ý od H0) s:=by
  refine yb (wy I hg hm ?_ ju);refine PySem.W.callWith_K (h₀:=X.base) I.ok.mod.uS hk (i6 (ha pos pins s σ H _ (I.iA _) h) (λus s1 ⟨vs,H1,I1,r,q⟩=>Ãn) λ_ _ z=>False.elim z) he df;have I1:=I1.lI;have q:sp (vs++[]) H1 (λv H1=>D.nx Ļ H1) E:=q;rw[kY] at q;have hl:us.length=ps.length:=by rw[←r.length];exact F.len _ _ _ _ q
  have bb:=hb s1 us I1.fW Ç;rw[kY] at bb;refine Cr (wb (F.run X.A X.stack s1 H1 ⟨us,[]⟩ us vs _ E hr I1.AA bb r q) λr s' hq=>?_);cases r with
  |error e=>
   obtain⟨a,C,od,H0,H',e1,e2,e3,e4,e5,e6,e7,e8⟩:=hq;exact⟨a,C,od,H0,H',e1,I1.uV (ch:=[]) e2 e4 e5 e3 Ĵ,e6,e7,e8⟩
  |ok fl=>
   cases fl with
   |ret u=>exact I1.after hq
   |next=>exact False.elim hq
   |brk=>exact False.elim hq
   |cont=>exact False.elim hq
 refine Xi (wpAny_Assign_Name (i6 g8 (λv s1 ⟨y,H1,I1,r1,q1⟩=>?_) λ_ _ z=>z) hs);exact C9 I1 hN hi hx r1 (λs2 I2=>CA ⟨_,H1,I2,q1⟩) hf
end
def A6(K:FR)(a:Addr):It:=
 ⟨λi H=>∃(xs:aq)(x:V),ť a xs∧xs[i]? =some x,λi H v H'=>∃T x,v=.ref T∧H T=none∧H'=upd H T (.tup [.int (i:Nat),x])∧∀xs,ť a xs→xs[i]? =some x,λi H=>∃xs:aq,ť a xs∧xs.length=i⟩
def Iv(x:IsTup h a aj):h.IsTuple a aj:=x
def acq{P:Pg}{w:Wd}{K:FR}{mr:List Expr}{kk:Nat}{lS:Pos}(a e it:Addr):
  Turn P w K Ĩ (A6 K a) [e,it] e (λi h=>(∃iz,IsEnum h e it ((i:Nat):Int) iz)∧h.IsTupleIter it a i∧e≠it∧a≠it∧a≠e) where
 mem:=by simp
 obj:=λi h=>DI
 keep:=λi h h' st k=>let ⟨⟨iz,he⟩,hi,aQ⟩:=st;⟨⟨iz,k e Â _ he⟩,hi.at λo q=>k it Â o q,aQ⟩
 item:=by
  show Ñ;subst hP hw hK;have ob:=DI st;obtain⟨⟨iz,he⟩,mq,aQ,DT,Iw⟩:=st;obtain⟨xs,x,hq,hx⟩:=hg;obtain⟨aj,rv,p,hz⟩:=I.tuple hq;obtain⟨u,hu,ru⟩:=rv.get hx;have Ii:=di he;have hh:X.A.in1.handled=none:=I.ok.hd hc;refine wpAny_pyNext_enum_itemD (OV hh it a DT aj.toArray) he ⟨mq,Iv p⟩ (by simpa using (bH.mp hu).1) aQ (by simp;exact⟨aQ,dJ Iw⟩) λy h' tk hy ho nV hT hsz hk=>?_;have ey:y=u:=by
   have q:=hu.symm.trans (by simpa using hy);exact(aO q).symm
  subst ey;refine⟨_,rfl,aoN (s:={s with heap:=h',toks:=tk+1}) ho λo8 A1 sb=>?_⟩;have t9:o8.get? s.heap.objs.size=some {cls:=.type "tuple",data:=.seq #[.int i tk,y]}:=(sb.2 _ (sX Ii)).trans hT;have ⟨I1,n1⟩:=DH (x:=.int (i:Nat)) (t':=tk+1) ob hf (λb ob hb q=>(sb.2 b (λz=>hb (by simp[z]))).trans (hk b ob (λz=>hb (by simp[z])) (λz=>hb (by simp[z])) q)) I t9 ⟨_,rfl⟩ ru;exact⟨.ref s.heap.objs.size,_,I1,rfl,⟨_,x,rfl,I.ax.fresh (bO _),rfl,λys hy=>by rw[I.O6 hy hq];exact hx⟩,⟨⟨y,by rw[show((i+1:Nat):Int)=(i:Int)+1 by omega];exact A1⟩,nV.1.at λo q=>(sb.2 it Åb).trans q,aQ,DT,Iw⟩,n1⟩
 done:=by
  show Ñ;subst hP hw hK;obtain⟨⟨iz,he⟩,mq,aQ,DT,Iw⟩:=st;obtain⟨xs,hq,hx⟩:=hg;obtain⟨aj,rv,p,hz⟩:=I.tuple hq;show é;have hl:=rv.length;have hh:X.A.in1.handled=none:=I.ok.hd hc;have en:i=aj.toArray.size:=by
   rw[tm];omega
  subst en;exact wpAny_pyNext_enum_endD (OV hh it a DT aj.toArray) he ⟨mq,Iv p⟩ λh' eb=>⟨rfl,I.turned (t':=s.toks) (λb o hb q=>eb b o hb q) f0 f1 f3 f4 f5⟩
 self:=λA i s Q E st h=>let ⟨⟨_,he⟩,_⟩:=st;Oy he h
def acr(K:FR)(ta:TA):TI:=λσ H R=>ta σ H λvs H1=>∃a xs,vs=[.ref a]∧bu K H1 a xs∧R (A6 K a) H1
def Q3{X:Cx}{e:Expr}{ta:TA}{p pos lS:Pos}{mr:List Expr}{kk:Nat}(hg:Gl X "enumerate")(hm:X.mg "enumerate"=none)(ha:PA X [e] ta)(hs:starEach [e] X.env=[(false,eval e X.env)]:=by rfl):
  PI X Ĩ (.Call (.Name "enumerate" p) [e] [] pos) (acr X.K ta):=by
 intro pins s σ H R I h;refine Call_ (Àg boot_enumerate (CC (aL (ha pos pins s σ H _ I h) λus s1 ⟨vs,H1,I1,r1,q1⟩=>?_) hs rfl));obtain⟨a,xs,ex,hq,q⟩:=q1;subst ex;cases r1 with
 |cons r rr=>
  cases rr;cases r;obtain⟨aj,rv,p',hz⟩:=I1.tuple hq;have A7:=p'.lt;refine YC (Iv p') λh' he mq hsz hk=>Oy he ?_;have I2:Á H1 {s1 with heap:=h'}:=I1.kept (t':=s1.toks) hk;refine⟨s1.heap.objs.size+1,[s1.heap.objs.size+1,s1.heap.objs.size],_,_,H1,rfl,I2,acq a (s1.heap.objs.size+1) s1.heap.objs.size,⟨⟨.none,he⟩,mq,Nat.succ_ne_self _,fU A7,fU (Ot A7)⟩,λb hb=>?_,q⟩;have e':b=s1.heap.objs.size+1∨b=s1.heap.objs.size:=by simpa using hb
  have j0:s1.heap.objs.size≤b:=by
   grind
  exact I1.uY j0 Æt
def acs{K:FR}{a:Addr}{xs:aq}{g:TG}{tb:TS}{D:Ends}{σ:St}{H:Hp}(Pv:Nat→St→Hp→Prop)(h0:Pv 0 σ H)(hl:∀i σ H,i≤xs.length→Pv i σ H→ß a xs)(hs:∀i x T σ H,xs[i]? =some x→Pv i σ H→H T=none→g ū σ (ϛ (.tup [.int (i:Nat),x])) λσ2 H2=>tb {D with nx:=Pv (i+1),ct:=Pv (i+1),bk:=D.nx} σ2 H2) (hd:∀σ H,Pv xs.length σ H→D.nx σ H):
  ∃W:Nat→Nat→St→Hp→Prop,(∃m,W 0 m σ H)∧∀i m σ H,W i m σ H→
   ((vh K a).stop i H∧D.nx σ H)∨((vh K a).go i H∧∃N:St→Hp→Prop,(∀σ' H',N σ' H'→∃m',m'<m∧W (i+1) m' σ' H')∧∀x H',(vh K a).mJ i H x H'→g x σ H' λσ2 H2=>tb {D with nx:=N,ct:=N,bk:=D.nx} σ2 H2):=by
 refine í;rintro i m σ H ⟨rfl,hi,p⟩;have q:=hl i σ H hi p;by_cases bJ:i<xs.length
 ·refine .inr ⟨⟨xs,xs[i],q,by simp[bJ]⟩,Pv (i+1),λσ' H' p'=>⟨xs.length-(i+1),by omega,rfl,bJ,p'⟩,λx H' y=>?_⟩;obtain⟨T,z,e1,e2,e3,e4⟩:=y;subst e1 e3;exact hs i z T σ _ (e4 xs q) p e2
 ·have e:i=xs.length:=by omega
  subst e;exact .inl ⟨⟨xs,q,bO _⟩,hd σ H p⟩
def Q4{K:FR}{a:Addr}{xs:aq}{g:TG}{tb:TS}{D:Ends}{σ:St}{H:Hp}(Pv:Nat→St→Hp→Prop)(h0:Pv 0 σ H)(hl:∀i σ H,i≤xs.length→Pv i σ H→ť a xs)(hs:∀i x T σ H,xs[i]? =some x→Pv i σ H→H T=none→g ū σ (ϛ (.tup [.int (i:Nat),x])) λσ2 H2=>tb {D with nx:=Pv (i+1),ct:=Pv (i+1),bk:=D.nx} σ2 H2) (hd:∀σ H,Pv xs.length σ H→D.nx σ H):
  ∃W:Nat→Nat→St→Hp→Prop,(∃m,W 0 m σ H)∧∀i m σ H,W i m σ H→
   ((A6 K a).stop i H∧D.nx σ H)∨((A6 K a).go i H∧∃N:St→Hp→Prop,(∀σ' H',N σ' H'→∃m',m'<m∧W (i+1) m' σ' H')∧∀x H',(A6 K a).mJ i H x H'→g x σ H' λσ2 H2=>tb {D with nx:=N,ct:=N,bk:=D.nx} σ2 H2):=by
 refine í;rintro i m σ H ⟨rfl,hi,p⟩;have q:=hl i σ H hi p;by_cases bJ:i<xs.length
 ·refine .inr ⟨⟨xs,xs[i],q,by simp[bJ]⟩,Pv (i+1),λσ' H' p'=>⟨xs.length-(i+1),by omega,rfl,bJ,p'⟩,λx H' y=>?_⟩;obtain⟨T,z,e1,e2,e3,e4⟩:=y;subst e1 e3;exact hs i z T σ _ (e4 xs q) p e2
 ·have e:i=xs.length:=by omega
  subst e;exact .inl ⟨⟨xs,q,rfl⟩,hd σ H p⟩
def acu{x:Str}{g:TG}{tt:TT}{te:TE}{vs:LN}{σ:St}{H1:Hp}{D:Addr}{Qd:Hp→Prop}(Pv:Nat→Hp→Prop)(h0:Pv 0 Ĉ)(hs:∀i c H,x.cps[i]? =some c→Pv i H→g (.str ⟨#[c]⟩) ķ H λσ2 H2=>wipe σ2 vs=wipe σ vs∧tt σ2 H2 λb H3=>
   if b=true then te σ2 H3 (jJ D (Pv (i+1))) else Pv (i+1) H3) (hd:∀H,Pv x.cps.size H→Qd H):
  ∃W:Nat→Nat→Hp→Prop,(∃m,W 0 m Ĉ)∧∀i m H,W i m H→
   ((AW x).stop i H∧Qd H)∨((AW x).go i H∧∃Nx:Hp→Prop,(∀H',Nx H'→∃m',m'<m∧W (i+1) m' H')∧∀y H',(AW x).mJ i H y H'→g y ķ H' λσ2 H2=>wipe σ2 vs=wipe σ vs∧tt σ2 H2 λb H3=>
    if b=true then te σ2 H3 Ån else Nx H3):=by
 refine⟨λi m H=>m=x.cps.size-i∧i≤x.cps.size∧Pv i H,⟨x.cps.size,by simp,dQ _,h0⟩,?_⟩;rintro i m H ⟨rfl,hi,p⟩;by_cases bJ:i<x.cps.size
 ·refine .inr ⟨bJ,Pv (i+1),λH' p'=>⟨x.cps.size-(i+1),by omega,rfl,bJ,p'⟩,λy H' q=>?_⟩;obtain⟨e,c,e1,e2⟩:=q;simp_all
 ·have e:i=x.cps.size:=by omega
  subst e;exact .inl ⟨bO _,hd H p⟩
section
variable{X:Cx}
def Q5{E:XK}{i:Nat}{y:Str}{py:Pos}{jZ tg iter:Expr}{jo:List Expr}{scope:Scope}{own:List (Str×Nat)}{pos vc:Pos}{wi:TI}{g:TG}{tt:TT}{te:TE}(hc:X.calm=true)(ow:X.DO)(hN:X.N.Nodup)(hy:X.N[i]? =some y)(rL:X.env.scope.names.lookup y=some .local)(AN:swapsWith Þ (some (.Name y py)) vc.line X.env=pure true) (hi:PI (X.w6 E) tg iter wi) (ok:ĩ own)(hg:∀(s:Sh)(H:Hp)(C:Addr)(cl:fk)(fp:LA),PG Î tg g) (ht:∀(s:Sh)(H:Hp)(C:Addr)(cl:fk)(fp:LA),wU Î jo tt)(he:∀(s:Sh)(H:Hp)(C:Addr)(cl:fk)(fp:LA),PE ((X.gc s H scope Àq fp).w6 E) jZ te) (hs:∀x,foldedSetIterable iter X.env x=pure x:=by intro _;rfl):
  PS (X.w6 E) (.Assign [.Name y py] Þ vc) (yp (AM wi g tt te (own.map (·.2))) (oX i)):=by
 refine Qq (Ex:=yL X E) (Eb:=λB=>yL B E) hc hN hy rL AN hi ok hg ht he hs λ{use Qf}pins σ s3 H3 cl fp D e nY I3 f3 hz=>?_;generalize ko:compEnvC scope cl s3.heap.objs.size X.env=ce at hz;have cL:ce.locals=s3.heap.objs.size:=by subst ko;rfl
 obtain⟨xa,xC,od,H0,Hx,σx,rfl,Ix,fx,iV,hE⟩:=hz;refine DM (X:=X.gc s3 H3 scope ce fp) (en:=ce) ow.1 ow.2 (by rw[←ko];exact ow.2) I3.ok.frames Ix fx λkq A8 vb Q6=>?_;obtain⟨m,hn,_⟩:=id vb.loc;have hn:=hn;rw[cL] at hn;have nC:A8 s3.heap.objs.size=none:=by
  have z:=vb.free;rw[cL] at z;exact z
 have g8:∃m,kq.heap.Ns s3.heap.objs.size m∧∀h',Heap.SameBut s3.heap.objs.size kq.heap h'→∀fb:Env,fb.locals=s3.heap.objs.size→wpAny Æ X.A (passOn "comprehension.variables-let-go" (.ref xa) fb:Sem Value) Ãr (yL X E) {kq with heap:=h'}:=by
  refine⟨m,hn,λh' sb fb _=>?_⟩;have I12:Á A8 kq:=I3.uV (ch:=fp) vb.os vb.base vb.ax vb.bare λb hb=>⟨(f3 b hb).1.2.2.2.1,(f3 b hb).1.2.1,(f3 b hb).1.2.2.2.2.1,(f3 b hb).1.2.2.2.2.2⟩;obtain⟨g0,g1,g2,g3,g4,g5⟩:=I3.uY (H':=A8) (bO _) nC;have Q7:Á A8 {kq with heap:=h',toks:=kq.toks}:=I12.turned (t':=kq.toks) (λb o hb e=>(sb.2 b hb).trans e) g0 g1 g3 g4 g5;obtain⟨T',A5,_⟩:=id Q6;obtain⟨o',ge',q1',q2',vj,q3',q4'⟩:=o9 Q7.ax A5;unfold PySem.passOn;refine aP (uO ge' q3' q4' ?_);rw[ah (show ¬(Value.ref T'==Value.none)=true from dZ)];refine aP (A4 fb.frame Q7 Q6 λn0 H14 I14 f14=>wpAny_throw ?_);exact⟨xa,xC,od,H0,H14,σ,rfl,I14.Iq,f14.at_,iV,hE⟩
 cases use <;> exact g8
end
end L2
end
section
namespace L2
open PySem PySem.Spec PyProof.Rows
theorem w9:∀xs ys:LI,PyData.eqvAll Ϟ (ys.map PyData.int)=decide (xs=ys)
 |[],[]=>by simp[PyData.eqvAll]
 |[],y::ys=>by simp[PyData.eqvAll]
 |x::xs,[]=>by simp[PyData.eqvAll]
 |x::xs,y::ys=>by
  simp only[aY,PyData.eqvAll,PyData.eqv,w9 xs ys];by_cases h:x=y
  ·subst h;simp
  ·simp[h]
theorem Q8:∀xs:LI,PyData.canLayAll0 Ϟ=true:=by
 intro xs;induction xs with
 |nil=>exact rfl
 |cons x xs ih=>
  simp only[aY,PyData.canLayAll0,PyData.canLay0,ih,Oz]
theorem Q9:∀xs:LI,PyData.depthAll Ϟ≤1:=by
 intro xs;induction xs with
 |nil=>
  simp[PyData.depthAll]
 |cons x xs ih=>
  have:=ih;simp only[aY,PyData.depthAll,PyData.depth];omega
def shaped_ints(xs:LI):SeqAt.shaped (.list Ϟ)=true:=by
 unfold SeqAt.shaped;rw[jq,nI];refine⟨Q8 xs,?_⟩;have:=Q9 xs;simp only[PyData.depth];omega
theorem qy{K:FR}{H:Hp}:∀xs:LI,iT K H Çu Ϟ:=by
 intro xs;induction xs with
 |nil=>exact .nil
 |cons x xs ih=>
  exact .cons (.int x) ih
inductive acC(K:FR)(x:V)(y:V)(H:Hp)(Q:VK):Prop
 |mk (a b:Addr) (xs ys:LI) (_:x=.ref a) (_:y=.ref b) (_:ß a Çu) (_:ß b (ys.map V.int)) (_:Q (.bl (decide (xs=ys))) H)
inductive acD(K:FR)(x:V)(y:V)(H:Hp)(Q:VK):Prop
 |mk (a b:Addr) (xs ys:LI) (_:x=.ref a) (_:y=.ref b) (_:ß a Çu) (_:ß b (ys.map V.int)) (_:Q (.bl (!decide (xs=ys))) H)
section
def acE(hu:X.A.units+64<cLine):eS X Ád (acC X.K):=by
 intro pins s σ H x y v u Q I rx ry ⟨a,b,xs,ys,e1,e2,h1,h2,q⟩;subst e1 e2;refine Qc hu pins s σ H _ _ v u Q I rx ry ⟨_,_,.lst h1 (qy xs),.lst h2 (qy ys),shaped_ints _,shaped_ints _,?_⟩;show Q (.bl (PyData.eqvAll _ _)) H;rw[w9];exact q
def Ra(hu:X.A.units+64<cLine):eS X Ám (acD X.K):=by
 intro pins s σ H x y v u Q I rx ry ⟨a,b,xs,ys,e1,e2,h1,h2,q⟩;subst e1 e2;refine HR hu pins s σ H _ _ v u Q I rx ry ⟨_,_,.lst h1 (qy xs),.lst h2 (qy ys),shaped_ints _,shaped_ints _,?_⟩;show Q (.bl (!PyData.eqvAll _ _)) H;rw[w9];exact q
inductive Rb(K:FR)(x:V)(y:V)(H:Hp)(Q:VK):Prop
 |mk (a b xs:_) (_:x=.ref a) (_:y=.ref b) (_:ß a xs) (_:ß b []) (_:Q (.bl xs.isEmpty) H)
inductive acF(K:FR)(x:V)(y:V)(H:Hp)(Q:VK):Prop
 |mk (a b xs:_) (_:x=.ref a) (_:y=.ref b) (_:ß a xs) (_:ß b []) (_:Q (.bl (!xs.isEmpty)) H)
def Rc(r:ba xs aj)(r':ba [] its')(h:xs≠[]):(aj.toArray.size !=its'.toArray.size)=true:=by
 cases r';have:=r.length;grind
def xb(hu:X.A.units+64<cLine):eS X Ád (Rb X.K):=by
 intro pins s σ H x y v u Q I rx ry ⟨a,b,xs,e1,e2,h1,h2,q⟩;subst e1 e2;by_cases hx:xs=[]
 ·subst hx;refine Qc hu pins s σ H _ _ v u Q I rx ry ⟨_,_,.lst h1 .nil,.lst h2 .nil,by rfl,by rfl,?_⟩;exact q
 ·cases rx;cases ry;obtain⟨aj,r1,⟨o1,n1,g1,c1,_,d1⟩,_⟩:=I.list h1;obtain⟨its',r2,⟨o2,n2,g2,c2,_,d2⟩,_⟩:=I.list h2;refine SeqAt.eq_list_lengthsAt ⟨o1,g1,c1,n1,d1⟩ ⟨o2,g2,c2,n2,d2⟩ (Rc r1 r2 hx) Ä ⟨.bl false,H,I,rfl,?_⟩;grind
def A9(hu:X.A.units+64<cLine):eS X Ám (acF X.K):=by
 intro pins s σ H x y v u Q I rx ry ⟨a,b,xs,e1,e2,h1,h2,q⟩;subst e1 e2;by_cases hx:xs=[]
 ·subst hx;refine HR hu pins s σ H _ _ v u Q I rx ry ⟨_,_,.lst h1 .nil,.lst h2 .nil,by rfl,by rfl,?_⟩;exact q
 ·cases rx;cases ry;obtain⟨aj,r1,⟨o1,n1,g1,c1,_,d1⟩,_⟩:=I.list h1;obtain⟨its',r2,⟨o2,n2,g2,c2,_,d2⟩,_⟩:=I.list h2;obtain⟨cls,dd,data,sl⟩:=o1;obtain⟨PF,lO,data2,mU⟩:=o2;simp only at c1 d1 c2 d2;subst c1 d1 c2 d2;refine Ol (op:=.NotEq) ⟨_,g1,rfl⟩ ⟨_,g2,rfl⟩ F.slot_list_ne F.entry_list_ne (F.args_list_ne_2 _ _) (SeqAt.list_ne_lengthsAt a b aj.toArray its'.toArray n1 n2 dd lO sl mU (Rc r1 r2 hx))
   ⟨g1,g2,(λx=>nomatch x),⟨.bl true,H,I,rfl,?_⟩⟩ Ä
  grind
end
end L2
end
section
namespace L2
open PySem PySem.Spec PyProof.Rows PySem.XL
theorem acG(x:Às o):∃ob,h.get? a=some ob:=by
 cases o with
 |lst xs=>obtain⟨_,_,_,_,e⟩:=x;exact⟨_,e⟩
 |tup xs=>obtain⟨_,_,_,ob,e,_⟩:=x;exact⟨ob,e⟩
 |dK kvs=>obtain⟨_,_,_,_,o,_,_,e,_⟩:=x;exact⟨o,e⟩
 |dT kvs=>obtain⟨_,_,_,_,o,_,_,e,_⟩:=x;exact⟨o,e⟩
 |set S n=>obtain⟨o,_,_,_,e,_⟩:=x;exact⟨o,e⟩
 |ins C dx fs=>obtain⟨_,_,_,e,_⟩:=x;exact⟨_,e⟩
 |own y=>obtain⟨ob,e⟩:=x;exact⟨ob,e⟩
 |xd fs=>obtain⟨_,⟨ob,_,_,e,_⟩,_⟩:=x;exact⟨ob,e⟩
 |rl lo hi=>obtain⟨_,_,_,e⟩:=x;exact⟨_,e⟩
 |ck ob u=>obtain⟨e,_⟩:=x;exact⟨ob,e⟩
 |gD ps=>exact⟨_,x⟩
 |met f y=>exact⟨_,x⟩
 |ext φ=>obtain⟨_,⟨ob,e⟩,_⟩:=x;exact⟨ob,e⟩
section
def acH(C:Addr):TE:=λ_ H Q=>∀x,H x=none→Q Ū (Áa Ŏ)
def m3(c:XC X.K C N)(mI:PySem.W.nsIn X.K N "__init__"=some none)(kp:PySem.W.keepIn X.K ý=true)(hg:Gl X x)(hm:X.mg x=some ý)(ju:(x==("__debug__":Str))=false:=by decide):
  PE X (.Call ž [] [] pos) (acH C):=by
 show Ô;refine yb (wy I hg hm ?_ ju);refine PySem.W.callWith_K0 I.fW kp ?_;obtain⟨nm,q,bs,sn,sub,ab,col,dd,k0,k1,k2,k3,k5,cls⟩:=c.obj;obtain⟨c1,c2,_⟩:=cls s.heap I.fW;have wq:=PySem.W.nsMap_none_of_in I.fW (Iu c) mI;have I0:=I;obtain⟨hh,g,d,tk,os⟩:=s;refine wpAny_call_exc_sub PySem.F.excBase_Exception c1 c2 wq (λh' e me=>?_) Â;obtain⟨t,ge,_⟩:=me.there;have ne:H e=none:=by
  cases z:H e with
  |none=>rfl
  |some u=>
   obtain⟨o,eo⟩:=acG (I0.ax e u z);have nn:=me.new;simp_all
 refine⟨.ref e,_,I0.DP (h2:=h') (t2:=tk) [e] (λb nb=>?_) Ċ ϸ (λb o nb g=>me.keeps b o g) (λb hb o g=>⟨_,me.keeps b o g⟩),rfl,h e ne⟩
 ·have:b≠e:=by simpa using nb
  rw[au this]
 ·have:b=e:=by simpa using hb
  subst this;exact .inl ⟨ne,me.new⟩
 ·have:b=e:=by simpa using hb
  subst this;rw[ao] at hu;cases hu;exact rP ge ⟨rfl,rfl,_,rfl,rfl⟩
end
section
def Dp.inj{pins:bI}{σ:St}{H:Hp}{s:Sh}(I:Á H s){d d':PyData}{v:V}(h:Dp X.K H v d):Dp X.K H v d'→d=d':=by
 have no:∀{a xs ys},Àt a xs→bu X.K H a ys→False:=λs1 s2=>by
  obtain⟨_,_,⟨o1,n1,g1,c1,_,_⟩,_⟩:=I.list s1;obtain⟨_,_,⟨o2,g2,c2,_,_⟩,_⟩:=I.tuple s2;rw[g1] at g2;cases g2;rw[c1] at c2;exact absurd c2 È
 refine Dp.rec (motive_1:=λv d _=>∀d',Dp X.K H v d'→d=d') (motive_2:=λvs ds _=>∀Re,iT X.K H vs Re→ds=Re)
  (λd' h=>by cases h;rfl) (λb d' h=>by cases h;rfl) (λi d' h=>by cases h;rfl) (λx d' h=>by cases h;rfl) (λs1 a1 ih d' h=>?_) (λs1 a1 ih d' h=>?_) (λd' h=>by cases h;rfl) (λ_ _ i1 i2 d' h=>?_) h d'
 ·cases h with
  |lst s2 a2=>
   have e:=I.Ar s1 s2;subst e;rw[ih _ a2]
  |tup s2 a2=>exact(no s1 s2).elim
 ·cases h with
  |tup s2 a2=>
   have e:=I.O6 s1 s2;subst e;rw[ih _ a2]
  |lst s2 a2=>exact(no s2 s1).elim
 ·cases h with
  |cons d2 r2=>rw[i1 _ d2,i2 _ r2]
def dataOf:List (Value×PyData)→Value→PyData
 |[],_=>.none
 |(u,d)::r,x=>if u=x then d else dataOf r x
inductive Rf(K:FR)(x:V)(y:V)(H:Hp)(Q:VK):Prop
 |mk (p:Addr) (xs:aq) (ds:List PyData) (dx:PyData) (_:y=.ref p) (_:ß p xs) (_:iT K H xs ds) (_:Dp K H x dx) (_:(∀d∈ds,SeqAt.shaped d=true)) (_:SeqAt.shaped dx=true) (_:Q (.bl (ds.any λd=>PyData.eqv d dx)) H)
def Rg{pins:bI}{σ:St}{H:Hp}{s:Sh}(I:Á H s){xs:aq}:∀{ds:List PyData}{us:LV},iT X.K H xs ds→ba xs us→
  ∀(i:Nat)(u:Value)(d:PyData),us[i]? =some u→ds[i]? =some d→dataOf (us.zip ds) u=d∧∃v,Dp X.K H v d∧RelV v u:=by
 induction xs with
 |nil=>
  intro ds us hd hv i u d h _;cases hv;simp at h
 |cons x xs ih=>
  intro ds us hd hv i u d h1 h2;cases hd with
  | @cons _ _ e ds d1 r1=>
  cases hv with
  | @cons _ w _ us v1 r2=>
  show(if w=u then e else dataOf (us.zip ds) u)=d∧_;cases i with
  |zero=>
   have e1:=aO h1;have e2:=aO h2;subst e1 e2;exact⟨af rfl,x,d1,v1⟩
  |succ i=>
   obtain⟨q1,v,q2,q3⟩:=ih r1 r2 i u d h1 h2;refine⟨?_,v,q2,q3⟩;by_cases z:w=u
   ·subst z;rw[af rfl];have:x=v:=v1.inj q3;subst this;exact Dp.inj I d1 q2
   ·rw[ah z];exact q1
theorem Rh{K:FR}{H:Hp}{xs:aq}:∀{ds:List PyData},iT K H xs ds→xs.length=ds.length:=by
 induction xs with
 |nil=>intro ds h;cases h;rfl
 |cons x xs ih=>
  intro ds h;cases h with
  |cons _ r=>rw[cZ,cZ,ih r]
theorem acI{α β:Type}{f:α→Bool}{g:β→Bool}{xs:List α}:∀{ys:List β},xs.length=ys.length→(∀(i:Nat)x y,xs[i]? =some x→ys[i]? =some y→f x=g y)→xs.any f=ys.any g:=by
 induction xs with
 |nil=>
  intro ys h _;cases ys with
  |nil=>rfl
  |cons _ _=>simp at h
 |cons x xs ih=>
  intro ys h k;cases ys with
  |nil=>simp at h
  |cons y ys=>rw[tp,tp,k 0 x y rfl rfl,ih (by simpa using h) λi a b h1 h2=>k (i+1) a b h1 h2]
def Iy(hu:X.A.units+128<cLine):eS X (compareOp .In) (Rf X.K):=by
 intro pins s σ H x y v u Q I rx ry ⟨p,xs,ds,dx,e1,hs,hd,hx,sd,sx,q⟩;subst e1;cases ry;obtain⟨aj,r,pl,hz⟩:=I.list hs;obtain⟨as,DU⟩:=Dp.reads I dx x v hx rx;have hl:aj.length=ds.length:=by rw[←r.length,Rh hd]
 refine SeqAt.in_listAt ř pl.isList (λw hw=>?_) ⟨.bl _,H,I,rfl,?_⟩
 ·obtain⟨i,hi,e⟩:=qY (show w∈aj by simpa using hw);have h1:aj[i]? =some w:=by rw[dm hi,e]
  have h2:ds[i]? =some ds[i]:=dm Ä;obtain⟨q1,v',q2,q3⟩:=Rg I hd r i w _ h1 h2;rw[q1];obtain⟨bs,rd⟩:=Dp.reads I _ v' w q2 q3;have sh:=sd _ (bY h2);refine SeqAt.eqAt_reads _ dx X.A.in1 s w v bs as rd DU (OB sh) (OB sx) ?_;have:=SeqAt.depth_of_shaped sh;show X.A.units+1+_<_;omega
 ·rw[show aj.toArray.any ř=aj.any ř by simp];rw[acI (g:=λd=>PyData.eqv d dx) hl λi a b h1 h2=>by rw[(Rg I hd r i a b h1 h2).1]];exact q
end
end L2
end
section
namespace L2
open PySem PySem.Spec PyProof.Rows
def bo{K:FR}{H:Hp}{a C dx:Addr}{fs:List (Str×V)}{f:Str}{v:V}{Q:V→Prop}(h:H a=some Ϙ)(c:kh K C)(n:ϧ f)(l:fs.lookup f=some v)(q:Q v):∃a' C' dx' yw v',V.ref a=.ref a'∧H a'=some (.ins C' dx' yw)∧kh K C'∧gw K C' f∧yw.lookup f=some v'∧Q v':=⟨a,C,dx,fs,v,rfl,h,c,n,l,q⟩
def cu{N P:LS}{sc:Scope}(k:sc.kind=.function:=by rfl)(h:sc.isCoroutine=false∧sc.isGenerator=false∧N.Nodup∧N.take P.length=P∧(∀x∈P,sc.names.lookup x=some .local∨sc.names.lookup x=some .cell)∧∀y∈sc.names,y.2≠ .free:=by decide+kernel):bC N P sc:=⟨k,h.1,h.2.1,h.2.2.1,h.2.2.2.1,h.2.2.2.2.1,h.2.2.2.2.2⟩
abbrev jg:=List (Addr×HO)
def aU(H:Hp)(ns:jg):Prop:=∀x∈ns,H x.1=some x.2
def aU.same(h:aU H ns)(s:ai H H'):aU H' ns:=λx hx=>s _ _ (h x hx)
def aU.upd(h:aU H ns)(n:∀x∈ns,x.1≠D):aU (upd H D o) ns:=λx hx=>by rw[au (n x hx)];exact h x hx
def aU.nil:aU H []:=λx hx=>absurd hx Â
def Iz(Z:Nat→V→jg→Prop)(H:Hp)(ys:aq):Prop:=∀i y,ys[i]? =some y→∃ns,Z i y ns∧aU H ns
def yO(D:Addr)(Z:Nat→V→jg→Prop)(H:Hp)(ys:aq):Prop:=∀i y,ys[i]? =some y→∃ns,Z i y ns∧aU H ns∧∀x∈ns,x.1≠D
def yO.fill(h:yO D Z H ys):Iz Z H ys:=λi y e=>let ⟨ns,a,b,_⟩:=h i y e;⟨ns,a,b⟩
def yO.snoc{D:Addr}{Z:Nat→V→jg→Prop}{H H4:Hp}{ys:aq}{y:V}{o:HO}{ns:jg}(h:yO D Z H ys)(s:ai H H4)(z:Z ys.length y ns)(l:aU H4 ns)(n:∀x∈ns,x.1≠D):yO D Z (upd H4 D o) (ys++[y]):=λi v e=>by
 by_cases hi:i<ys.length
 ·rw[Gu hi] at e;obtain⟨rG,a,b,c⟩:=h i v e;exact⟨rG,a,(b.same s).upd c,c⟩
 ·rw[Oj Ä] at e;have e0:i-ys.length=0:=by
   cases z:i-ys.length with
   |zero=>rfl
   |succ k=>rw[z] at e;simp at e
  rw[e0] at e;have:y=v:=by simpa using e
  subst this;have:i=ys.length:=by omega
  subst this;exact⟨ns,z,l.upd n,n⟩
def qz(s:ai H H1)(h:H p=none):ai H (L2.upd H1 p o):=λb u e=>by rw[au (eN e h)];exact s b u e
section
variable{K:FR}{g:TG}{tt:TT}{te:TE}{vs:LN}{σ:St}{H1:Hp}{D:Addr}{Qd:Hp→Prop}
def cw(H1:Hp)(D:Addr)(Z:Nat→V→jg→Prop)(i:Nat)(H:Hp):Prop:=∃ys,ai H1 H∧H D=some Âb∧ys.length=i∧yO D Z H ys
def cw.zero(hD:H1 D=none):cw H1 D Z 0 Ĉ:=⟨[],qz (λ_ _ e=>e) hD,ao,rfl,λi y e=>by simp at e⟩
def cw.step(hD:H1 D=none)(hi:i<1000000)(f:cw H1 D Z i H)(s:ai H H4)(z:Z i y ns)(l:aU H4 ns)(n:∀x∈ns,x.1≠D):
  jJ D (cw H1 D Z (i+1)) y H4:=by
 obtain⟨ys,s1,hd,hl,fd⟩:=f;subst hl;refine⟨ys,s _ _ hd,i8 hi (by rw[wc];decide),ys++[y],qz (s1.trans s) hD,ao,by simp,fd.snoc s z l n⟩
def cw.same(f:cw H1 D Z i H):ai H1 H:=let ⟨_,s,_⟩:=f;s
def cw.has(f:cw H1 D Z i H):H D≠none:=let ⟨_,_,e,_⟩:=f;by rw[e];simp
def cw.end(f:cw H1 D Z i H):∃ys,ai H1 H∧H D=some Âb∧ys.length=i∧Iz Z H ys:=let ⟨ys,a,b,c,d⟩:=f;⟨ys,a,b,c,d.fill⟩
def lj{a:Addr}{xs:aq}(Pv:Nat→Hp→Prop)(h0:Pv 0 Ĉ)(hl:∀i H,i≤xs.length→Pv i H→ß a xs)(hs:∀i x T H,xs[i]? =some x→Pv i H→H T=none→g ū ķ (ϛ (.tup [.int (i:Nat),x])) λσ2 H2=>wipe σ2 vs=wipe σ vs∧tt σ2 H2 λb H3=>
   if b=true then te σ2 H3 (jJ D (Pv (i+1))) else Pv (i+1) H3) (hd:∀H,Pv xs.length H→Qd H):
  ∃W:Nat→Nat→Hp→Prop,(∃m,W 0 m Ĉ)∧∀i m H,W i m H→
   ((vh K a).stop i H∧Qd H)∨((vh K a).go i H∧∃Nx:Hp→Prop,(∀H',Nx H'→∃m',m'<m∧W (i+1) m' H')∧∀x H',(vh K a).mJ i H x H'→g x ķ H' λσ2 H2=>wipe σ2 vs=wipe σ vs∧tt σ2 H2 λb H3=>
    if b=true then te σ2 H3 Ån else Nx H3):=by
 refine⟨λi m H=>m=xs.length-i∧i≤xs.length∧Pv i H,⟨xs.length,by simp,dQ _,h0⟩,?_⟩;rintro i m H ⟨rfl,hi,p⟩;have q:=hl i H hi p;by_cases bJ:i<xs.length
 ·refine .inr ⟨⟨xs,xs[i],q,by simp[bJ]⟩,Pv (i+1),λH' p'=>⟨xs.length-(i+1),by omega,rfl,bJ,p'⟩,λx H' y=>?_⟩;obtain⟨T,z,e1,e2,e3,e4⟩:=y;subst e1 e3;exact hs i z T _ (e4 xs q) p e2
 ·have e:i=xs.length:=by omega
  subst e;exact .inl ⟨⟨xs,q,bO _⟩,hd H p⟩
end
def and_val{tA tB:TT}{σ:St}{H:Hp}{Q:Bool→Hp→Prop}(c1 c2:Bool)(hA:∀K:Bool→Hp→Prop,K c1 H→tA σ H K)(hB:c1=true→∀K:Bool→Hp→Prop,K c2 H→tB σ H K)(h:Q (c1&&c2) H):Dd tA tB σ H Q:=
 hA _ (by
  cases c1 with
  |false=>exact h
  |true=>exact hB rfl _ h)
def or_val{tA tB:TT}{σ:St}{H:Hp}{Q:Bool→Hp→Prop}(c1 c2:Bool)(hA:∀K:Bool→Hp→Prop,K c1 H→tA σ H K)(hB:c1=false→∀K:Bool→Hp→Prop,K c2 H→tB σ H K)(h:Q (c1||c2) H):Hg tA tB σ H Q:=
 hA _ (by
  cases c1 with
  |true=>exact h
  |false=>exact hB rfl _ h)
def Ri{tA tB:TE}{σ:St}{H:Hp}{Q:VK}(c1 c2:Bool)(hA:∀K:VK,K (.bl c1) H→tA σ H K)(hB:c1=false→∀K:VK,K (.bl c2) H→tB σ H K)(h:Q (.bl (c1||c2)) H):Hi tA tB σ H Q:=
 hA _ ⟨c1,rfl,by
  cases c1 with
  |true=>exact h
  |false=>exact hB rfl _ h⟩
def DV(c:Bool)(v:V)(hA:∀K:Bool→Hp→Prop,K c H→tA σ H K)(h1:c=true→∀K:VK,K v H→ta σ H K)(h2:c=false→∀K:VK,K v H→tb σ H K)(h:Q v H):wz tA ta tb σ H Q:=
 hA _ (by
  cases c with
  |true=>exact h1 rfl _ h
  |false=>exact h2 rfl _ h)
def Rj{D}(c:Bool)(v:V)(hA:∀K:Bool→Hp→Prop,K c H→tA σ H K)(h1:c=true→∀K:VK,K v H→ta σ H K)(h2:c=false→∀K:VK,K v H→tb σ H K)(h:D.nx Ļ H):yp (wz tA ta tb) (oX i) D σ H:=
 DV c v hA h1 h2 h
def Rk{i:Nat}{v:V}{σ:St}{H:Hp}{t u:TS}{D}(h:t {D with nx:=u D} Ļ H):oX i v σ H (Hj t u D):=h
section
variable{K:FR}{g:TG}{tt:TT}{te:TE}{vs:LN}{σ:St}{H1:Hp}{D:Addr}{Qd:Hp→Prop}
def acK(Pv:Nat→Hp→Prop)(h0:Pv 0 Ĉ)(hl:∀i H,i≤kvs.length→Pv i H→H d=some ϥ)(hs:∀i k v T H,kvs[i]? =some (k,v)→Pv i H→H T=none→g ū ķ (ϛ Çg) λσ2 H2=>wipe σ2 vs=wipe σ vs∧tt σ2 H2 λb H3=>
   if b=true then te σ2 H3 (jJ D (Pv (i+1))) else Pv (i+1) H3) (hd:∀H,Pv kvs.length H→Qd H):
  ∃W:Nat→Nat→Hp→Prop,(∃m,W 0 m Ĉ)∧∀i m H,W i m H→
   ((vg d o kvs).stop i H∧Qd H)∨((vg d o kvs).go i H∧∃Nx:Hp→Prop,(∀H',Nx H'→∃m',m'<m∧W (i+1) m' H')∧∀x H',(vg d o kvs).mJ i H x H'→g x ķ H' λσ2 H2=>wipe σ2 vs=wipe σ vs∧tt σ2 H2 λb H3=>
    if b=true then te σ2 H3 Ån else Nx H3):=by
 refine⟨λi m H=>m=kvs.length-i∧i≤kvs.length∧Pv i H,⟨kvs.length,by simp,dQ _,h0⟩,?_⟩;rintro i m H ⟨rfl,hi,p⟩;have q:=hl i H hi p;by_cases bJ:i<kvs.length
 ·refine .inr ⟨⟨q,bJ⟩,Pv (i+1),λH' p'=>⟨kvs.length-(i+1),by omega,rfl,bJ,p'⟩,λx H' y=>?_⟩;obtain⟨T,k,v,e1,e2,e3,e4⟩:=y;simp_all
 ·have e:i=kvs.length:=by omega
  subst e;exact .inl ⟨⟨q,bO _⟩,hd H p⟩
end
section
variable{K:FR}{g:TG}{tb:TS}{D:Ends}{σ:St}{H:Hp}
def acL{d:Addr}{o:Obj}{kvs:List (Key×V)}(Pv:Nat→St→Hp→Prop)(h0:Pv 0 σ H)(hl:∀i σ H,i≤kvs.length→Pv i σ H→H d=some ϥ)(hs:∀i k v T σ H,kvs[i]? =some (k,v)→Pv i σ H→H T=none→g ū σ (ϛ Çg) λσ2 H2=>tb {D with nx:=Pv (i+1),ct:=Pv (i+1),bk:=D.nx} σ2 H2) (hd:∀σ H,Pv kvs.length σ H→D.nx σ H):
  ∃W:Nat→Nat→St→Hp→Prop,(∃m,W 0 m σ H)∧∀i m σ H,W i m σ H→
   ((vg d o kvs).stop i H∧D.nx σ H)∨((vg d o kvs).go i H∧∃N:St→Hp→Prop,(∀σ' H',N σ' H'→∃m',m'<m∧W (i+1) m' σ' H')∧∀x H',(vg d o kvs).mJ i H x H'→g x σ H' λσ2 H2=>tb {D with nx:=N,ct:=N,bk:=D.nx} σ2 H2):=by
 refine⟨λi m σ H=>m=kvs.length-i∧i≤kvs.length∧Pv i σ H,⟨kvs.length,by simp,dQ _,h0⟩,?_⟩;rintro i m σ H ⟨rfl,hi,p⟩;have q:=hl i σ H hi p;by_cases bJ:i<kvs.length
 ·refine .inr ⟨⟨q,bJ⟩,Pv (i+1),λσ' H' p'=>⟨kvs.length-(i+1),by omega,rfl,bJ,p'⟩,λx H' y=>?_⟩;obtain⟨T,k,v,e1,e2,e3,e4⟩:=y;simp_all
 ·have e:i=kvs.length:=by omega
  subst e;exact .inl ⟨⟨q,bO _⟩,hd σ H p⟩
def acM{d:Addr}{o:Obj}{kvs:List (Key×V)}(Pv:Nat→St→Hp→Prop)(h0:Pv 0 σ H)(hl:∀i σ H,i≤kvs.length→Pv i σ H→H d=some ϥ)(hs:∀i k v σ H,kvs[i]? =some (k,v)→Pv i σ H→g v σ H λσ2 H2=>tb {D with nx:=Pv (i+1),ct:=Pv (i+1),bk:=D.nx} σ2 H2) (hd:∀σ H,Pv kvs.length σ H→D.nx σ H):
  ∃W:Nat→Nat→St→Hp→Prop,(∃m,W 0 m σ H)∧∀i m σ H,W i m σ H→
   ((AX d o kvs).stop i H∧D.nx σ H)∨((AX d o kvs).go i H∧∃N:St→Hp→Prop,(∀σ' H',N σ' H'→∃m',m'<m∧W (i+1) m' σ' H')∧∀x H',(AX d o kvs).mJ i H x H'→g x σ H' λσ2 H2=>tb {D with nx:=N,ct:=N,bk:=D.nx} σ2 H2):=by
 refine⟨λi m σ H=>m=kvs.length-i∧i≤kvs.length∧Pv i σ H,⟨kvs.length,by simp,dQ _,h0⟩,?_⟩;rintro i m σ H ⟨rfl,hi,p⟩;have q:=hl i σ H hi p;by_cases bJ:i<kvs.length
 ·refine .inr ⟨⟨q,bJ⟩,Pv (i+1),λσ' H' p'=>⟨kvs.length-(i+1),by omega,rfl,bJ,p'⟩,λx H' y=>?_⟩;obtain⟨e1,k,e2⟩:=y;simp_all
 ·have e:i=kvs.length:=by omega
  subst e;exact .inl ⟨⟨q,bO _⟩,hd σ H p⟩
def Rl{a b:Addr}{xs ys:aq}(cJ:xs.length=ys.length)(Pv:Nat→St→Hp→Prop)(h0:Pv 0 σ H)(hl:∀i σ H,i≤xs.length→Pv i σ H→ß a xs∧ß b ys)(hs:∀i x y T σ H,xs[i]? =some x→ys[i]? =some y→Pv i σ H→H T=none→g ū σ (ϛ Æv) λσ2 H2=>tb {D with nx:=Pv (i+1),ct:=Pv (i+1),bk:=D.nx} σ2 H2) (hd:∀σ H,Pv xs.length σ H→D.nx σ H):
  ∃W:Nat→Nat→St→Hp→Prop,(∃m,W 0 m σ H)∧∀i m σ H,W i m σ H→
   ((A2 K a b).stop i H∧D.nx σ H)∨((A2 K a b).go i H∧∃N:St→Hp→Prop,(∀σ' H',N σ' H'→∃m',m'<m∧W (i+1) m' σ' H')∧∀x H',(A2 K a b).mJ i H x H'→g x σ H' λσ2 H2=>tb {D with nx:=N,ct:=N,bk:=D.nx} σ2 H2):=by
 refine í;rintro i m σ H ⟨rfl,hi,p⟩;obtain⟨q1,q2⟩:=hl i σ H hi p;by_cases bJ:i<xs.length
 ·refine .inr ⟨⟨xs,ys,xs[i],ys[i],q1,q2,by simp[bJ],by simp[←cJ,bJ]⟩,Pv (i+1),λσ' H' p'=>⟨xs.length-(i+1),by omega,rfl,bJ,p'⟩,λx H' y=>?_⟩;obtain⟨T,x1,y1,e1,e2,e3,e4,e5⟩:=y;subst e1 e3;exact hs i x1 y1 T σ _ (e4 xs q1) (e5 ys q2) p e2
 ·have e:i=xs.length:=by omega
  subst e;exact .inl ⟨⟨xs,ys,q1,q2,.inl (bO _)⟩,hd σ H p⟩
end
section
variable{β:Type}(g:β→V)
def bx(t:List (Nat×β)):List (Key×V):=t.map λp=>((Sum.inl ((p.1:Nat):Int):Key),g p.2)
def bW(t:List (Nat×β))(s:Nat):Option β:=(t.find? λp=>decide (p.1=s)).map (·.2)
def d8(t:List (Nat×β))(s:Nat)(v:β):List (Nat×β):=if (t.any λp=>decide (p.1=s))=true then t.map (λp=>if p.1=s then (p.1,v) else p) else t++[(s,v)]
def Rm(a b:Nat):decide ((Sum.inl ((a:Nat):Int):Key)=Sum.inl ((b:Nat):Int))=decide (a=b):=by
 grind
theorem yP(t:List (Nat×β)):∀(s:Nat),fJ (bx g t) (Sum.inl ((s:Nat):Int))=(bW t s).map g:=by
 induction t with
 |nil=>exact @λs=>rfl
 |cons p t ih=>
  intro s;have ih:=ih s;unfold bx bW fJ at ih⊢;rw[aY,j5,j5];rw[Rm];cases decide (p.1=s) with
  |true=>rfl
  |false=>exact ih
def acN(t:List (Nat×β))(s:Nat):((bx g t).any λkv=>decide (kv.1=Sum.inl ((s:Nat):Int)))=t.any λp=>decide (p.1=s):=by
 unfold bx;rw[Oo];congr 1;funext p;exact Rm p.1 s
def Ba(t:List (Nat×β))(s:Nat)(v:β):putK (bx g t) (Sum.inl ((s:Nat):Int)) (g v)=bx g (d8 t s v):=by
 unfold putK d8;rw[acN];split
 ·unfold bx;rw[cO,cO];refine j6 λp _=>?_;grind
 ·unfold bx;simp
def xc(t:List (Nat×β)):(bx g t).length=t.length:=by unfold bx;rw[aA]
theorem IA{t:List (Nat×β)}{i:Nat}{k:Key}{v:V}(h:(bx g t)[i]? =some (k,v)):∃s b,t[i]? =some (s,b)∧k=Sum.inl ((s:Nat):Int)∧v=g b:=by
 unfold bx at h;rw[bX] at h;cases e:t[i]? with
 |none=>rw[e] at h;cases h
 |some p=>
  rw[e] at h;have h:=aO h;refine⟨p.1,p.2,rfl,?_,?_⟩
  ·exact(cz Prod.fst h).symm
  ·exact(cz Prod.snd h).symm
theorem pb(t:List (Nat×β))(s:Nat):(t.any λp=>decide (p.1=s))=(bW t s).isSome:=by
 induction t with
 |nil=>rfl
 |cons p t ih=>
  unfold bW at ih⊢;rw[tp,j5];cases e:decide (p.1=s) with
  |true=>rfl
  |false=>rw[Ov];exact ih
theorem DW(s j:Nat)(v:β):∀t:List (Nat×β),bW (t.map λp=>if p.1=s then (p.1,v) else p) j=(bW t j).map λx=>if j=s then v else x:=by
 intro t;induction t with
 |nil=>exact rfl
 |cons p t ih=>
  have ih:=ih;unfold bW at ih⊢;rw[aY,j5,j5];have e1:(if p.1=s then (p.1,v) else p).1=p.1:=by split <;> rfl
  rw[e1];cases e:decide (p.1=j) with
  |false=>exact ih
  |true=>
   have e:=qZ e;show some ((if p.1=s then (p.1,v) else p).2)=some (if j=s then v else p.2);rw[←e];by_cases h:p.1=s
   ·rw[af h,af h]
   ·rw[ah h,ah h]
theorem acO(t:List (Nat×β))(s j:Nat)(v:β)(h:bW t s=none):bW (t++[(s,v)]) j=if j=s then some v else bW t j:=by
 induction t with
 |nil=>
  show((([(s,v)]:List (Nat×β)).find? λp=>decide (p.1=j)).map (·.2))=_;rw[j5];by_cases e:s=j
  ·dsimp only;rw[eF e,af e.symm];rfl
  ·dsimp only;rw[fC e,ah λz=>e z.symm];rfl
 |cons p t ih=>
  unfold bW at ih h⊢;rw[j5] at h;rw[List.cons_append,j5,j5];cases es:decide (p.1=s) with
  |true=>rw[es] at h;cases h
  |false=>
   rw[es] at h;cases ej:decide (p.1=j) with
   |false=>exact ih h
   |true=>
    have ej:=qZ ej;have es:=aoP es;rw[ah λz=>es (ej.trans z)]
theorem DX(t:List (Nat×β))(s j:Nat)(v:β):bW (d8 t s v) j=if j=s then some v else bW t j:=by
 unfold d8;rw[pb];cases e:bW t s with
 |none=>
  exact acO t s j v e
 |some x=>
  rw[af (show(some x).isSome=true from rfl),DW];by_cases h:j=s
  ·simp_all
  ·simp_all
def Rn(t:List (Nat×β))(s:Nat)(v:β):(d8 t s v).length≤t.length+1:=by
 unfold d8;grind
def Ro(t:List (Nat×β))(s:Nat)(v:β):(d8 t s v).map (·.1)=if (bW t s).isSome=true then t.map (·.1) else t.map (·.1)++[s]:=by
 unfold d8;rw[pb];split
 ·rw[cO];refine j6 λp _=>?_;grind
 ·simp
def acP{t:List (Nat×β)}{s:Nat}(h:bW t s=none):s∉t.map (·.1):=by
 intro m;obtain⟨p,hp,e⟩:=cb.mp m;have q:(t.any λp=>decide (p.1=s))=true:=uP.mpr ⟨p,hp,eF e⟩;rw[pb,h] at q;cases q
theorem DY{t:List (Nat×β)}{s:Nat}{v:β}(h:(t.map (·.1)).Nodup):((d8 t s v).map (·.1)).Nodup:=by
 rw[Ro];cases e:bW t s with
 |some x=>exact h
 |none=>exact Ij h (acP e)
theorem yQ{t:List (Nat×β)}(h:(t.map (·.1)).Nodup){s:Nat}{v:β}(hm:(s,v)∈t):bW t s=some v:=by
 induction t with
 |nil=>simp_all
 |cons p t ih=>
  rw[aY,j4] at h;unfold bW at ih⊢;grind
def xf(h:bW t s=some v):(s,v)∈t:=by
 unfold bW at h;obtain⟨p,hp,e⟩:=x9.mp h;grind
theorem acQ(g:β→V):∀(t t0:List (Nat×β)),((t0++t).map (·.1)).Nodup→tX (bx g t0) (bx g t)=bx g (t0++t):=by
 intro t;induction t with
 |nil=>
  intro t0 _;rw[kY];rfl
 |cons p t ih=>
  intro t0 h;have h2:p.1∉t0.map (·.1):=by
   rw[bV,aY] at h;have:=(OC.mp h).2.2;exact λm=>this _ m _ gu rfl
  have e:bW t0 p.1=none:=by
   cases e:bW t0 p.1 with
   |none=>rfl
   |some x=>exact absurd (cb.mpr ⟨_,xf e,rfl⟩) h2
  have ih:=ih (t0++[p]) (by rw[rg];exact h);have ep:putK (bx g t0) (Sum.inl ((p.1:Nat):Int)) (g p.2)=bx g (t0++[p]):=by
   rw[Ba];unfold d8;rw[pb,e];rfl
  show tX (putK (bx g t0) (Sum.inl ((p.1:Nat):Int)) (g p.2)) (bx g t)=_;rw[ep,ih,rg];rfl
end
section
variable{X:Cx}{pins:bI}{σ:St}{H:Hp}{s:Sh}{a:Addr}{kvs:List (Key×V)}{k:Key}{d:V}{u r:Value}{A:Around}{E:VP}
def acR(I:Á H s)(e:H a=some č)(hl:kvs.length<sizeLine)(ry:RelV (kV k) u)(rd:RelV d r)(h1:∀v,fJ kvs k=some v→∀w' s',Á H s'→RelV v w'→Q w' s')(h2:fJ kvs k=none→∀s',Á (Ŧ (.dK (ň d))) s'→Q r s'):wpAny Æ A (call (.builtin "dict.setdefault") [.ref a,u,r]) Q E s:=by
 obtain⟨z,hd,vs,eZ,dd⟩:=Dy I.ax e;have hz:vs.length≤sizeLine:=by rw[←eZ.length];exact z
 have je:(ň d).length≤sizeLine:=by have:=AQ kvs k d;omega
 refine CU PySem.F.slot_dict_setdefault dd.typeIs PySem.F.entry_dict_setdefault (PySem.F.args_dict_setdefault_3 _ _ _) (kt_meets_setdefault ā a (vd ry) hd r) ⟨vs,dd,hz,λv hv=>?_,λhn h' rM hs=>?_⟩
 ·have q:=eZ.val k;rw[hv] at q;cases e1:fJ kvs k with
  |none=>rw[e1] at q;exact q.elim
  |some y=>
   rw[e1] at q;exact h1 y e1 v _ (I.tok _) q
 ·have q:=eZ.val k;rw[hn] at q;have e1:fJ kvs k=none:=by
   cases e1:fJ kvs k with
   |none=>rfl
   |some y=>rw[e1] at q;exact q.elim
  refine h2 e1 _ ?_;have he:∃q,h'.get? a=some q:=let ⟨q,_,_,hq,_⟩:=rM;⟨q,hq⟩;exact Ia I (by rw[e];exact True.intro) hs he (Qt je hd (eZ.put k rd) rM)
end
def acS(td ty tx:TE):TE:=λσ H Q=>td σ H λx H1=>∃a,x=.ref a∧DA H1 a∧ty σ H1 λy H2=>tx σ H2 λz H3=>∃kvs k,H3 a=some č∧y=kV k∧kvs.length<sizeLine∧(∀v,fJ kvs k=some v→Q v H3)∧(fJ kvs k=none→Q z (upd H3 a (.dK (ň z))))
section
def acT(ho:PE X o td)(he:ϝ ty)(hf:PE X f tx)(m:M2 X o "setdefault" iP e f fG):PE X (.Call (.Attribute o "setdefault" iP) [e,f] [] fG) (acS td ty tx):=by
 show Ô;refine GA m.base m.c8 m.line PySem.F.plainAttrs_dict PySem.F.slot_dict_setdefault PySem.F.type_dict_setdefault (aL (ho pins s σ H _ I h) λu s1 ⟨x,H1,I1,rx,a,ex,d,q1⟩=>?_);subst ex;obtain rfl:u=Value.ref a:=rx;obtain⟨t1,t2,_⟩:=Ic I1 d;refine Çs;rw[m.trees];refine Gv rfl (On (CD (aL (he pins s1 σ H1 _ I1 q1) λiv s2 ⟨y,H2,I2,ry,q2⟩=>
  CD (aL (hf pins s2 σ H2 _ I2 q2) λfv s3 ⟨z,H3,I3,rz,kvs,k,e3,ey,hl,q3,q4⟩=>Oi ?_))))
 subst ey;exact acR I3 e3 hl ry rz (λv ev w' s4 I4 iS=>⟨_,H3,I4,iS,q3 v ev⟩) λen s4 I4=>⟨_,_,I4,rz,q4 en⟩
end
section
variable{prog:Pg}{w:Wd}{Kt:Type}[DecidableEq Kt]
def acU(knd:KeyKind prog w Kt)(a b:Addr)(ha:(a==sysModules)=false)(hb:(b==sysModules)=false):
  MeetsIn prog w (Builtin.«dict.__eq__» ⟨[.ref a,.ref b],[]⟩) (λ_ R s=>∃vs:List (Kt×Value),s.heap.DictOf knd a vs∧s.heap.DictOf knd b []∧R (.ok (.ret (.bool vs.isEmpty))) s):=
 .of_wp λA R s ⟨vs,hm,DC,h⟩=>by
  show wpAny _ _ (Builtin.Dict.dictSlotArgs "__eq__" ⟨[.ref a,.ref b],[]⟩ >>= _) _ _ s;refine aP ?_;unfold Builtin.Dict.dictSlotArgs;refine aP (wpAny_notOrdered_dict hm.typeIs ?_);show wpAny _ _ (pure (Value.ref a,Value.ref b)) _ _ s;refine c7 ?_;refine aP (wpAny_isInstance (b:=true) DC.typeIs Ò ?_);show wpAny _ _ (Builtin.Dict.samePairs "dict.__eq__" a b >>= _) _ _ s;obtain⟨o,es,ep,g1,g2,g3,g4,g5,g6⟩:=hm;obtain⟨o2,es2,Rp,k1,k2,k3,k4,k5,k6⟩:=DC;have l1:es.size=vs.length:=by
   have:=g5.length
   rwa [we] at this
  have l2:es2.size=0:=by
   have:=k5.length
   rwa [we] at this
  refine aP ?_;unfold Builtin.Dict.samePairs;unfold Builtin.Dict.showsAll;rw[ah (by rw[ha];exact dZ),ah (by rw[hb];exact dZ)];refine aP (c7 (aP (c7 (aP (wpAny_dictEntries g1 g3 ?_)))));dsimp only;refine aP (wpAny_dictEntries k1 k3 ?_);rw[l1,l2];cases vs with
  |nil=>
   rw[ah Â];have fin:wpAny Ð A.in1 (pure true) (λa s'=>wpAny Ð A.in1 (ret (Value.bool (a==true))) (λfin s'=>∃v,fin=Fin.done (Flow.ret v)∧R (Except.ok (Flow.ret v)) s') (λe s'=>R (Except.error e) s') s') (λe s'=>R (Except.error e) s') s:=c7 (c7 ⟨_,rfl,h⟩);refine aP (wpAny_dictEpoch g1 g3 ?_);rw[show(([]:List (Kt×Value)).length)=0 from rfl];have e0:∀(f:Nat→Option Bool×Unit→Sem (ForInStep (Option Bool×Unit))),(forIn [:0] ((none,()):Option Bool×Unit) f:Sem _)=pure (none,()):=λf=>by
    simp
   rw[e0];exact aP (c7 fin)
  |cons p r=>
   rw[af Â];exact aP (wpAny_rule (c7 (c7 ⟨_,rfl,h⟩)))
end
section
inductive acW(x:V)(y:V)(H:Hp)(Q:VK):Prop
 |mk (a b kvs:_) (_:x=.ref a) (_:y=.ref b) (_:H a=some č) (_:H b=some Àp) (_:Q (.bl kvs.isEmpty) H)
def acX(hu:X.A.units+64<cLine):eS X Ád acW:=by
 intro pins s σ H x y v u Q I rx ry ⟨a,b,kvs,e1,e2,h1,h2,q⟩;subst e1 e2;cases rx;cases ry;obtain⟨z,hd,vs,eZ,dd⟩:=Dy I.ax h1;obtain⟨z2,fA,vs2,acZ,lO⟩:=Dy I.ax h2;cases acZ;have ei:vs.isEmpty=kvs.isEmpty:=by cases eZ <;> rfl
 show wpAny Æ X.A (richCompare .Eq Ě (.ref b)) _ _ s;have ht:s.TypeIs Ě "dict":=dd.typeIs;have hc:wpAny Æ X.A (call (.builtin "dict.__eq__") [.ref a,.ref b]) (λv s'=>v≠ .notImplemented∧(ð Q v s')) X.xe s:=
  CU PySem.F.slot_dict_eq ht PySem.F.entry_dict_eq (PySem.F.args_dict_eq_2 _ _) (acU ā a b hd fA) ⟨vs,dd,lO,(λz=>(by cases z)),.bl vs.isEmpty,H,I,rfl,by rw[ei];exact q⟩
 exact wpAny_richCompare_same_room ht lO.typeIs PySem.F.slot_dict_eq hc Ä
end
theorem ac0{α β:Type}{R:α→β→Prop}{l1:List α}:∀{l2:List β},l1.length=l2.length→(∀(i:Nat)(a:α)(b:β),l1[i]? =some a→l2[i]? =some b→R a b)→Paired R l1 l2:=by
 induction l1 with
 |nil=>
  intro l2 hl _;cases l2 with
  |nil=>exact .nil
  |cons _ _=>cases hl
 |cons a l1 ih=>
  intro l2 hl h;cases l2 with
  |nil=>cases hl
  |cons b l2=>exact .cons (h 0 a b rfl rfl) (ih (by simpa using hl) λi x y h1 h2=>h (i+1) x y h1 h2)
section
def ac1:k8 X (.type "range") (λxs H Q=>∃n:Nat,xs=[.int ((n:Nat):Int)]∧∀p,H p=none→Q Ģ (upd H p (.rl 0 n))):=by
 intro pins s σ H xs us Q I r h;obtain⟨n,rfl,q⟩:=h;obtain⟨u,rfl,rx⟩:=vals1 r;obtain⟨t,rfl⟩:=rx;refine call_range_1 ?_;exact⟨.ref s.heap.objs.size,_,I.laid Åe (bO _) (show fm X.prog X.w _ _ _ (.rl 0 ((n:Nat):Int)) from⟨_,_,_,g9 _ rfl⟩),rfl,q _ ħ⟩
def ac2(hc:X.calm=true):k8 X (.type "list") (λxs H Q=>∃(p:Addr)(n:Nat),xs=[.ref p]∧H p=some (.rl 0 ((n:Nat):Int))∧n≤1000000∧∀l,H l=none→Q Är (Ϛ (.lst ((List.range n).map λi=>V.int ((i:Nat):Int))))):=by
 intro pins s σ H xs us Q I r h;obtain⟨p,n,rfl,hp,hn,q⟩:=h;obtain⟨u,rfl,rx⟩:=vals1 r;cases rx;obtain⟨t,u,v,e⟩:=(I.ax p _ hp);refine call_list_range (n:=n) ă e (small_one Ø Ø Ä Ä) (by rw[rangeSize_one];split <;> omega) Ä λh' tk Rq c' hk hS Rr=>?_;have rv:ba ((List.range n).map λi=>V.int ((i:Nat):Int)) Rq.toList:=by
  refine ac0 (by rw[aA,gX,we,Rr.1]) λi a b h1 h2=>?_;rw[Xr] at h2;obtain⟨t',ht⟩:=Rr.2 i b h2;rw[bX] at h1;cases er:Èg[i]? with
  |none=>simp_all
  |some j=>
   rw[er] at h1;obtain⟨e1,e2⟩:=bH.mp er;rw[aoR] at e2;subst e2;cases h1;subst ht;refine⟨t',?_⟩;simp
 refine⟨.ref s.heap.objs.size,_,I.laid (t':=tk) hk (bO _) (show fm X.prog X.w _ h' _ (.lst ((List.range n).map λi=>V.int ((i:Nat):Int))) from⟨?_,Rq.toList,c',rv,hS⟩),rfl,q _ ħ⟩;rw[aA,gX,wc];omega
end
abbrev pd:=dX×Addr×Value
def IB(acc bG:List pd):List pd:=bG.foldl (λa q=>storedH a q.1 q.2.1 q.2.2) acc
section
variable{prog:Pg}{w:Wd}
def Rt{h h':Heap}{k:dX}{a:Addr}(i:(tupleKind Äo).is h k a)(e:∀o,h.get? a=some o→h'.get? a=some o):(tupleKind Äo).is h' k a:=by
 obtain⟨o,aj,n,h1,h2,h3,h4⟩:=i;exact⟨o,aj,n,e o h1,h2,h3,h4⟩
def ac3{h h':Heap}{S:Addr}{xs:List pd}(d:h.DictOfH (tupleKind Äo) S xs)(e:∀o,h.get? S=some o→h'.get? S=some o)(ek:∀x∈xs,∀o,h.get? x.2.1=some o→h'.get? x.2.1=some o):h'.DictOfH (tupleKind Äo) S xs:=by
 obtain⟨o,es,ep,d1,d2,d3,d4,d5,d6⟩:=d;exact⟨o,es,ep,e o d1,d2,d3,d4,λx hx=>Rt (d5 x hx) (ek x hx),d6⟩
def ac4{xs:List pd}{k:dX}{a:Addr}{v:Value}{x:pd}(h:x∈storedH xs k a v):x.2.1=a∨∃y∈xs,x.2.1=y.2.1:=by
 unfold storedH at h;split at h
 ·obtain⟨y,hy,e⟩:=cb.mp h;refine .inr ⟨y,hy,?_⟩;unfold putAt at e;split at e <;> rw[←e]
 ·rcases gK.mp h with h|h
  ·exact .inr ⟨x,h,rfl⟩
  ·have:x=(k,a,v):=by simpa using h
   exact .inl (by rw[this])
def ac5(xs:List pd)(k:dX)(a:Addr)(v:Value):(storedH xs k a v).length≤xs.length+1:=by
 unfold storedH;grind
end
def qA(kvs:List (dX×V))(ts:List (dX×Addr×V)):List (dX×V):=ts.foldl (λacc t=>putK acc t.1 t.2.2) kvs
theorem ac6(ts:List (dX×Addr×V)):∀(kvs:List (dX×V)),(qA kvs ts).length≤kvs.length+ts.length:=by
 induction ts with
 |nil=>exact @λkvs=>bO _
 |cons t ts ih=>
  intro kvs;have h1:=ih (putK kvs t.1 t.2.2);have h2:=AQ kvs t.1 t.2.2;show(qA (putK kvs t.1 t.2.2) ts).length≤_;rw[cZ];omega
theorem ac7{H:Hp}:∀{ts:List (dX×Addr×V)}{prs:List pd}{kvs:List (dX×V)}{xs:List pd},Paired (λ(t:dX×Addr×V)(q:pd)=>t.1=q.1∧t.2.1=q.2.1∧H t.2.1=some (.tup (t.1.map kV))∧RelV t.2.2 q.2.2) ts prs→KT H kvs xs→KT H (qA kvs ts) (IB xs prs):=by
 intro ts prs kvs xs h0;induction h0 generalizing kvs xs with
 |nil=>exact λk=>k
 | @cons t q ts prs h r ih=>
  intro k;obtain⟨h1,h2,h3,h4⟩:=h;refine ih (kvs:=putK kvs t.1 t.2.2) (xs:=storedH xs q.1 q.2.1 q.2.2) ?_;rw[←h1,←h2];exact k.put t.1 h3 h4
section
variable{X:Cx}
def ac8(hu:X.A.units+3<cLine)(Ih:X.calm=true):k8 X (.type "dict") (λxs H Q=>∃(a:Addr)(ps:LA)(ts:List (dX×Addr×V)),xs=[.ref a]∧Àt a Áx∧Paired (λp(t:dX×Addr×V)=>H p=some (.tup [.ref t.2.1,t.2.2])∧H t.2.1=some (.tup (t.1.map kV))) ps ts∧
  ∀p,H p=none→Q Ģ (upd H p Ça)):=by
 intro pins s σ H xs us Q I r q;obtain⟨a,ps,ts,ex,hq,hp,q⟩:=q;subst ex;obtain⟨u,eu,rx⟩:=vals1 r;subst eu;cases rx;obtain⟨aj,rv,pl,hz⟩:=I.list hq;have ei:=QB rv;subst ei;rw[aA] at hz;have ac9:∀{ps:LA}{ts:List (dX×Addr×V)},Paired (λp(t:dX×Addr×V)=>H p=some (.tup [.ref t.2.1,t.2.2])∧H t.2.1=some (.tup (t.1.map kV))) ps ts→
   ∃prs:List pd,Paired (λ(t:dX×Addr×V)(q:pd)=>t.1=q.1∧t.2.1=q.2.1∧H t.2.1=some (.tup (t.1.map kV))∧RelV t.2.2 q.2.2) ts prs∧prs.length=ps.length∧∀(j:Nat)(q:pd),prs[j]? =some q→∃b:Addr,ps[j]? =some b∧IsTup s.heap b #[.ref q.2.1,q.2.2]∧(tupleKind ā).is s.heap q.1 q.2.1:=by
  intro ps ts hp;induction hp with
  |nil=>exact⟨[],.nil,rfl,λj q e=>by simp at e⟩
  | @cons p t ps ts h _ ih=>
   obtain⟨prs,r1,r2,r3⟩:=ih;obtain⟨_,aj,rv,ob,o1,o2,n,o3⟩:=(I.ax p _ h.1);obtain⟨u,y,ei,ru,ry⟩:=vals2 rv;subst ei;cases ru;refine⟨(t.1,t.2.1,y)::prs,.cons ⟨rfl,rfl,h.2,ry⟩ r1,by rw[cZ,cZ,r2],λj q e=>?_⟩;cases j with
   |zero=>
    have e':=aO e;subst e';exact⟨p,rfl,⟨ob,o1,o2,n,o3⟩,wW I.ax h.2⟩
   |succ j=>
    obtain⟨b,e1,e2⟩:=r3 j q (by simpa using e);exact⟨b,by simpa using e1,e2⟩
 obtain⟨prs,eZ,hl,gO⟩:=ac9 hp;obtain⟨o,n,ho,hc,hd,tY⟩:=pl;refine Qz (prs:=prs) (DD:=λh acc=>h.DictOfH Çy s.heap.objs.size acc∧∀x∈acc,x.2.1<s.heap.objs.size) (G:=λh q u y=>u=.ref q.2.1∧y=q.2.2∧q.2.1<s.heap.objs.size∧(tupleKind ā).is h q.1 q.2.1) (st:=λa q=>storedH a q.1 q.2.1 q.2.2) (I.ok.hd Ih) ho hc hd tY (by simp[hl]) Ä ⟨Heap.DictOfH.new s.heap,by simp⟩ (λ_ _ _ d k=>⟨ac3 d.1 (λo e=>k _ o (bO _) e) λx hx o e=>k _ o (sY (d.2 x hx)) e,d.2⟩) (λ_ _ _ _ _ g k=>⟨g.1,g.2.1,g.2.2.1,Rt g.2.2.2 λo e=>k _ o g.2.2.1 e⟩)
  (λ_ acc q _ _ _ _ g d hz k=>by
   obtain⟨rfl,rfl,g1,g2⟩:=g;refine wpAny_dictSet_heap (knd:=tupleKind ā) (CO (oQ (show X.A.units+1+1≤X.A.units+3 by omega) hu)) g2 d.1 (λh' hm=>k h' _ ⟨hm,λx hx=>?_⟩) hz;rcases ac4 hx with e|⟨y,hy,e⟩
   ·rw[e];exact g1
   ·rw[e];exact d.2 y hy) (λa q=>ac5 a q.1 q.2.1 q.2.2) Çt λh' tk oU k=>?_
 ·obtain⟨b,e1,e2,e3⟩:=gO j q' e;exact⟨b,_,_,by simp_all,e2,rfl,rfl,by obtain⟨o,_,_,g,_⟩:=e3;exact di g,e3⟩
 ·have hm:=wg.mpr (sX I.big);have cJ:(qA [] ts).length≤sizeLine:=by
   refine gW (ac6 ts []) ?_;rw[qU,wk,Paired.length eZ,hl];omega
  have o6:=I.ax.fresh (bO _);obtain⟨⟨q2,es,ep,xg,g2,g3,g4,g5,g6⟩,_⟩:=oU;have kt:KT (ě Ça) (qA [] ts) (IB [] prs):=(ac7 eZ (kvs:=[]) (xs:=[]) .nil).keeps λb ys e=>by
   rw[au (eN e o6)];omega
  exact⟨.ref s.heap.objs.size,ě Ça,I.laid (t':=tk) k (bO _) (⟨cJ,hm,IB [] prs,kt,q2,es,ep,xg,g2,g3,g4,g6⟩),rfl,q _ o6⟩
end
end L2
end
section
namespace HT
open PySem PyProof.Rows
section
open PySem.SeqAt
open PySem.AutoSeq1 (wpAny_loadPart')
open PySem.MeetsSeq PySem.MeetsSeq2 PySem.MeetsSeq3
def Ru{items:Array Value}{i:Nat}{v:Value}{r:LV}(h:items.toList.drop i=v::r):items[i]? =some v∧items.toList.drop (i+1)=r:=by
 have h0:(items.toList.drop i)[0]? =some v:=by rw[h];rfl
 rw[Xw,Xx,Xr] at h0;refine⟨h0,?_⟩;have:(items.toList.drop i).drop 1=r:=by rw[h];rfl
 rw[List.drop_drop] at this;exact this
theorem ada(l b:Addr)(items ig:Array Value)(n n2:Nat)(dd lO:OA)(sl mU:AO)(k:Nat):∀(i:Nat)(ns ms:LI),IntsAre (items.toList.drop i) ns→IntsAre (ig.toList.drop i) ms→ns.length=k→i≤items.size→i≤ig.size→
  Meets (Builtin.«list.__eq__.loop» ⟨[.ref l,.ref b,rawInt i,rawInt 0],[]⟩)
   (λ_ R s=>s.heap.get? l=some {cls:=.type "list",dict:=dd,data:=.seq items n,slots:=sl}∧s.heap.get? b=some {cls:=.type "list",dict:=lO,data:=.seq ig n2,slots:=mU}∧
    R (.ok (.ret Ž)) s):=by
 induction k with
 |zero=>
  intro i ns ms hi hj hk h1 h2 prog w A R s h;obtain⟨hp,g,d,tk,os⟩:=s;obtain⟨hl,hb,h⟩:=h;have ens:ns=[]:=OD.mp hk;subst ens;have l1:=hi.length;have l2:=hj.length;rw[Xq,we] at l1 l2;simp only[qU] at l1;have Bb:items[((i:Nat):Int).toNat]? =none:=by simp;omega
  wp_walk using i7 hl,i7 hb
  rw[Bb]
  wp_walk using i7 hl,i7 hb
  show R (.ok (.ret (.bool (decide (items.size<ig.size))))) _;have e:lexLt [] ms=decide (items.size<ig.size):=by
   cases ms with
   |nil=>
    rw[Py];simp only[qU] at l2;exact(fC Ä).symm
   |cons c ms=>
    rw[Pz];simp only[cZ] at l2;exact(eF Ä).symm
  rw[←e];exact h
 |succ k ih=>
  intro i ns ms hi hj hk h1 h2 prog w A R s h;obtain⟨hp,g,d,tk,os⟩:=s;obtain⟨hl,hb,h⟩:=h;have l1:=hi.length;have l2:=hj.length;rw[Xq,we] at l1 l2;generalize ed1:items.toList.drop i=d1 at hi;generalize ed2:ig.toList.drop i=d2 at hj;cases hi with
  |nil=>cases hk
  | @cons a t vj rG hi'=>
   obtain⟨g1,g2⟩:=Ru ed1;have Bb:items[((i:Nat):Int).toNat]? =some (.int a t):=by simpa using g1
   cases hj with
   |nil=>
    have yR:ig[((i:Nat):Int).toNat]? =none:=by simp only[qU] at l2;simp;omega
    wp_walk using i7 hl,i7 hb
    rw[Bb,yR]
    wp_walk using i7 hl,i7 hb
    show R (.ok (.ret (.bool (decide (items.size<ig.size))))) _;rw[PB] at h;simp only[qU,cZ] at l1 l2;rw[fC Ä];exact h
   | @cons c u ws' lQ DZ=>
    obtain⟨g3,g4⟩:=Ru ed2;have yR:ig[((i:Nat):Int).toNat]? =some (.int c u):=by simpa using g3
    have hc:((i:Int)+1)=((i+1:Nat):Int):=by push_cast;rfl
    have z1:i<items.size:=by simp only[cZ] at l1;omega
    have z2:i<ig.size:=by simp only[cZ] at l2;omega
    rw[tU] at h
    wp_walk using i7 hl,i7 hb
    rw[Bb,yR];refine aP (EqGives.int a c t u prog w _ _ _ _ ?_);cases oY:(a==c) with
    |true=>
     rw[af (by simpa using oY)] at h
     wp_walk
     rw[hc];exact⟨GC plain_eq_loop _,Ow entry_eq_loop (by
      rw[Ox plain_eq_loop _];exact ih (i+1) rG lQ (by rw[g2];exact hi') (by rw[g4];exact DZ) (by simpa using hk) z1 z2 prog w A R _ ⟨hl,hb,h⟩)⟩
    |false=>
     rw[ah (by simpa using oY)] at h
     wp_walk using i7 hl,i7 hb
     rw[Bb,yR];have qm:=HF A.in1 ⟨hp,g,d,tk,os⟩ a t c u prog w
     wp_walk using qm
     exact h
def ade(l b:Addr)(items ig:Array Value)(n n2:Nat)(dd lO:OA)(sl mU:AO)(ns ms:LI)(hi:IntsAre items.toList ns)(hj:IntsAre ig.toList ms):
  Meets (Builtin.«list.__lt__» ⟨[.ref l,.ref b],[]⟩)
   (λ_ R s=>s.heap.get? l=some {cls:=.type "list",dict:=dd,data:=.seq items n,slots:=sl}∧s.heap.get? b=some {cls:=.type "list",dict:=lO,data:=.seq ig n2,slots:=mU}∧
    R (.ok (.ret Ž)) s):=by
 intro prog w A R s h;obtain⟨hp,g,d,tk,os⟩:=s;obtain⟨hl,hb,h⟩:=h;have f3:=AutoSeq1.sub_list_list
 wp_walk using i7 hl,i7 hb
 exact⟨GC plain_eq_loop _,Ow entry_eq_loop (by
  rw[Ox plain_eq_loop _];exact ada l b items ig n n2 dd lO sl mU _ 0 ns ms hi hj rfl (dQ _) (dQ _) prog w A R _ ⟨hl,hb,h⟩)⟩
end
end HT
end
section
namespace HT
open PySem PyProof.Rows
section
open PySem.SeqAt
open PySem.AutoSeq1 (wpAny_loadPart')
open PySem.MeetsSeq PySem.MeetsSeq2 PySem.MeetsSeq3
def adf(l b la lb:Addr)(n n2:Nat)(dd lO:OA)(sl mU:AO)(a c:Int)(t u:Tok)(e r:Bool)(IC:e=true→r=false):
  Meets (Builtin.«tuple.__lt__» ⟨[.ref l,.ref b],[]⟩)
   (λA R s=>s.heap.get? l=some {cls:=.type "tuple",dict:=dd,data:=.seq #[.int a t,.ref la] n,slots:=sl}∧s.heap.get? b=some {cls:=.type "tuple",dict:=lO,data:=.seq #[.int c u,.ref lb] n2,slots:=mU}∧
    EqAt A.in1 s Äl Äk e∧(∀(prog:Pg)(w:Wd)(E:VP)(Q:VP),Q (.bool r) s→wpAny Ð A.in1 (richCompare .Lt Äl Äk) Q E s)∧
    R (.ok (.ret (.bool (if a=c then r else decide (a<c))))) s):=
 .of_wp λprog w A R s h=>by
  obtain⟨hp,g,d,tk,os⟩:=s;obtain⟨hl,hb,Gm,bJ,h⟩:=h;have f2:=aoC
  wp_walk using i7 hl,i7 hb,wpAny_forIn_list _ (λbG b s'=>b.1=none∧s'=⟨hp,g,d,tk,os⟩∧(bG=[(Value.int a t,Value.int c u),(Value.ref la,Value.ref lb)]∨(bG=[(Value.ref la,Value.ref lb)]∧a=c)∨(bG=[]∧a=c∧e=true))) _
  case turn=>
   rintro⟨y,x⟩ bG b s' ⟨oY,rfl,hz⟩;rcases hz with hz|⟨hz,Bc⟩|⟨hz,_⟩
   ·injection hz with hyx hrest;injection hyx with hy hx;subst hy hx;obtain⟨e1,D0,AD⟩:=PD A.in1 ⟨hp,g,d,tk,os⟩ a t c u;refine aP (D0 prog w _ _ ?_);cases e1 with
    |true=>
     wp_walk
     exact⟨rfl,rfl,.inr (.inl ⟨hrest,AD.mp rfl⟩)⟩
    |false=>
     rw[ah (λq=>absurd (AD.mpr q) dZ)] at h;have qm:=HF A.in1 ⟨hp,g,d,tk,os⟩ a t c u prog w
     wp_walk using qm
     exact⟨_,rfl,by simpa using h⟩
   ·injection hz with hyx hrest;injection hyx with hy hx;subst hy hx;refine aP (Gm prog w _ _ ?_);cases e with
    |true=>
     wp_walk
     exact⟨rfl,rfl,.inr (.inr ⟨hrest,Bc,rfl⟩)⟩
    |false=>
     rw[af Bc] at h;have qm:=bJ prog w
     wp_walk using qm
     exact⟨_,rfl,by simpa using h⟩
   ·cases hz
  case fin=>
   rintro⟨b1,b2⟩ s' ⟨oY,rfl,hz⟩;simp only at oY;subst oY;rcases hz with hz|⟨hz,Bc⟩|⟨hz,Bc,he⟩
   ·cases hz
   ·cases hz
   ·rw[af Bc,IC he] at h
    wp_walk
    exact⟨_,rfl,by simpa [Builtin.Tuple.tupleCompareSizes] using h⟩
  case h=>
   exact⟨rfl,rfl,.inl rfl⟩
end
end HT
namespace L2
open PySem PySem.Spec PyProof.Rows
section
inductive Rv(K:FR)(x:V)(y:V)(H:Hp)(Q:VK):Prop
 |mk (p q la lb:Addr) (a c:Int) (ns ms:LI) (_:x=.ref p) (_:y=.ref q) (_:ť p [.int a,.ref la]) (_:ť q [.int c,.ref lb]) (_:ß la Ţ) (_:ß lb (ms.map V.int)) (_:Q (.bl (if a=c then HT.lexLt ns ms else decide (a<c))) H)
theorem adg:∀ns:LI,HT.lexLt ns ns=false:=by
 intro ns;induction ns with
 |nil=>exact rfl
 |cons x ns ih=>
  rw[HT.tU,af rfl];exact ih
theorem Rw{ns:LI}:∀{us:LV},ba Ţ us→IntsAre us ns:=by
 induction ns with
 |nil=>
  intro _ r;cases r;exact .nil
 |cons n ns ih=>
  intro _ r;cases r with
  |cons h t=>
   obtain⟨tk,rfl⟩:=h;exact .cons n tk (ih t)
def adh(hu:X.A.units+128<cLine):eS X Çf (Rv X.K):=by
 intro pins s σ H x y v u Q I rx ry ⟨p,q,la,lb,a,c,ns,ms,e1,e2,hp,hq,h1,h2,k⟩;subst e1 e2;cases rx;cases ry;obtain⟨aj,rv,⟨o,ho,hc,n,hd⟩,_⟩:=I.tuple hp;obtain⟨mV,yI,⟨o2,AE,iH,n2,fA⟩,_⟩:=I.tuple hq;obtain⟨u1,u2,ei,r1,r2⟩:=vals2 rv;obtain⟨w1,w2,ei2,r3,r4⟩:=vals2 yI;subst ei ei2;obtain⟨t,rfl⟩:=r1;obtain⟨t2,rfl⟩:=r3;cases r2;cases r4;obtain⟨is1,rl1,⟨p1,m1,g1,c1,d1,f1⟩,_⟩:=I.list h1;obtain⟨is2,rl2,⟨p2,m2,g2,c2,d2,f2⟩,_⟩:=I.list h2;have i1:=Rw rl1;have i2:=Rw rl2;obtain⟨cls,yj,data,sl⟩:=o;obtain⟨PF,adn,data2,mU⟩:=o2;obtain⟨apm,apn,data3,sl3⟩:=p1;obtain⟨apo,apq,apr,sl4⟩:=p2;simp only at hc hd iH fA c1 d1 f1 c2 d2 f2;subst hc hd iH fA c1 d1 f1 c2 d2 f2;obtain⟨as,ra⟩:=Dp.reads I (.list (ns.map PyData.int)) Äl Äl (.lst h1 (qy ns)) rfl;obtain⟨bs,rb⟩:=Dp.reads I (.list Ãz) Äk Äk (.lst h2 (qy ms)) rfl;have Gm:SeqAt.EqAt X.A.in1 s Äl Äk (PyData.eqvAll (ns.map PyData.int) Ãz):=by
  refine SeqAt.eqAt_reads _ (.list Ãz) X.A.in1 s Äl Äk as bs ra rb (OB (shaped_ints ns)) (OB (shaped_ints ms)) ?_;have:=SeqAt.depth_of_shaped (shaped_ints ns);grind
 rw[w9] at Gm;have bJ:∀(prog:Pg)(w:Wd)(E:VP)(Q:VP),Q (.bool Ϝ) s→wpAny Ð X.A.in1 (richCompare .Lt Äl Äk) Q E s:=λprog w E Q h=>
  Ol (op:=.Lt) ⟨_,g1,rfl⟩ ⟨_,g2,rfl⟩ PySem.F.slot_list_lt PySem.F.entry_list_lt (PySem.F.args_list_lt_2 _ _) (HT.ade la lb is1.toArray is2.toArray m1 m2 none none sl3 sl4 ns ms (by simpa using i1) (by simpa using i2))
   ⟨g1,g2,show Value.bool Ϝ≠Value.notImplemented∧Q (.bool Ϝ) s from⟨(λx=>nomatch x),h⟩⟩ (by show X.A.units+1<cLine;omega)
 have IC:decide (ns=ms)=true→HT.lexLt ns ms=false:=λe=>by
  have:ns=ms:=qZ e;rw[this];exact adg ms
 exact Ol (op:=.Lt) ⟨_,ho,rfl⟩ ⟨_,AE,rfl⟩ PySem.F.slot_tuple_lt PySem.F.entry_tuple_lt (PySem.F.args_tuple_lt_2 _ _) (HT.adf p q la lb n n2 yj adn sl mU a c t t2 (decide (ns=ms)) Ϝ IC)
  ⟨ho,AE,Gm,bJ,(λx=>nomatch x),.bl _,H,I,rfl,k⟩ Ä
end
end L2
end
section
namespace L2
open PySem PySem.Spec PyProof.Rows
abbrev ID(fd:FD):Obj:={cls:=.type "function",data:=.func fd}
def yS(f:Addr)(fd:FD):HO:=.ext λh=>h.get? f=some (ID fd)
def yT(c:Addr)(q:Str):HO:=.ext λh=>∃o vs t,h.get? c=some o∧o.data=.fields vs∧vs[1]? =some (.str q t)
def Bd(K:FR)(c T:Addr):Prop:=∀h:Heap,K.In h→PySem.W.CodeHd h c T
def xh(mg:MG)(base:Heap):Prop:=∃bm ob,mg "__builtins__"=some (.ref bm)∧bm≠builtinsNs∧base.get? bm=some ob∧ob.cls=.type "module"∧ob.dict=some builtinsNs∧ob.data=.plain
abbrev rR(q:Str)(args:Arguments)(gJ:Expr)(scope:Scope)(pm:Value)(c:Addr)(ij:Value):FuncData:=PySem.W.kla_fn "<lambda>" q args gJ scope [] pm (.ref c) ij
def adq(T:Addr)(q:Str)(args:Arguments)(gJ:Expr)(scope:Scope)(pm:Value):TE:=λσ H Q=>H T=some (.gD #[])∧∀(f c:Addr)(ij:Value)(i4:Array Value),H f=none→H c=none→c≠f→
 Q ą (upd (upd (ϛ (.gD i4)) c (yT c q)) f (yS f (rR q args gJ scope pm c ij)))
section
variable{X:Cx}
def ads(hK:Bd X.K c T)(hb:xh X.mg X.base)(j8:X.env.code=.ref c)(hq:X.env.qual++"<lambda>"=q)(gE:closureFor scope X.env=pure [])(hd:defaultsOf args X.env=([],[]):=by rfl):
  PE X (.Lambda args gJ scope pos) (adq T q args gJ scope ((X.mg "__name__").getD .none)):=by
 show Ô;obtain⟨hT,h⟩:=h;subst hq;have hTk:s.heap.get? T=some (PySem.W.tabObj #[]):=I.ax T _ hT;have keep:=I.bs;have ns:∀{b:Addr}{m:MG},X.base.Ns b m→s.heap.Ns b m:=λ{b m} ⟨o,es,ep,e,d,r⟩=>⟨o,es,ep,(keep _ _ e).1,d,r⟩;obtain⟨bm,ob,b1,b2,b3,b4,b5,b6⟩:=hb;have qB:bm≠T:=λz=>by
  simp_all
 have hgN:∃o es ep,X.base.get? mainGlobals=some o∧o.data=.dict es ep:=by
  obtain⟨o,es,ep,e,d,r⟩:=I.ok.mod.glob;simp_all
 have hgT:mainGlobals≠T:=λz=>by
  grind
 have hbG:bm≠mainGlobals:=λz=>by
  simp_all
 refine PySem.W.kla_eval hd (PySem.W.kla_makeFunction gE I.ok.glob (ns I.ok.mod.glob) j8 (hK _ I.fW) hTk trivial rfl hgT ⟨bm,ob,b1,b2,hbG,qB,(keep _ _ b3).1,b4,b5,b6⟩ λc' ij h' tk ext ue iH IE Rx=>?_);have D1:∀b o,b≠T→s.heap.get? b=some o→(h'.push (ID (rR (X.env.qual++"<lambda>") args gJ scope ((X.mg "__name__").getD .none) c' ij))).get? b=some o:=λb o hb e=>dh _ (ext b o hb e);have hcf:=fU iH;have hH:∀b o,H b=some o→b≠c'∧b≠h'.objs.size:=λb o e=>by
  have vk:b<s.heap.objs.size:=by
   refine Xy λz=>?_;rw[I.ax.fresh z] at e;simp_all
  grind
 have Ry:=hH _ _ hT;have hcN:=I.ax.fresh ue;have hfN:=I.ax.fresh (gW ue (sY iH));refine⟨.ref h'.objs.size,_,?_,rfl,h h'.objs.size c' ij (#[]++ #[rawInt pos.line,rawInt pos.col,.ref c']) hfN hcN hcf⟩;have iz:∀b o,H b=some o→b≠T→(upd (upd (ϛ (.gD (#[]++ #[rawInt pos.line,rawInt pos.col,.ref c']))) c' (yT c' (X.env.qual++"<lambda>"))) h'.objs.size (yS h'.objs.size (rR (X.env.qual++"<lambda>") args gJ scope ((X.mg "__name__").getD .none) c' ij))) b=some o:=λb o e hb=>by
  rw[au (hH b o e).2,au (hH b o e).1,au hb];exact e
 have atT:(upd (upd (ϛ (.gD (#[]++ #[rawInt pos.line,rawInt pos.col,.ref c']))) c' (yT c' (X.env.qual++"<lambda>"))) h'.objs.size (yS h'.objs.size (rR (X.env.qual++"<lambda>") args gJ scope ((X.mg "__name__").getD .none) c' ij))) T=some (.gD (#[]++ #[rawInt pos.line,rawInt pos.col,.ref c'])):=by
  rw[au Ry.2,au Ry.1,ao]
 refine I.step (g':=s.gens) (d':=s.drawn) (t':=tk) (ch:=[]) (λ_ z=>nomatch z) (λb o _ _ _ e n=>D1 b o (λz=>by simp_all) e) (λb o _ _ _ e n=>⟨o.slots,D1 b o (λz=>by simp_all) e⟩) (λb o _ e n=>?_) (λb o _ e=>?_) (λb xs e=>iz b _ e (λz=>by simp_all)) (λb o u e=>iz b _ e (λz=>by simp_all)) (λb ps e=>?_) Åt (λb o e=>?_) I.bare
 ·have vk:=di e;rw[au (fU (i8 vk (gW ue (sY iH)))),au (fU (i8 vk ue)),au (λz=>by simp_all)];exact n
 ·by_cases hb:b=T
  ·rw[hb];exact⟨_,dh _ Rx⟩
  ·simp_all
 ·by_cases hb:b=T
  ·simp_all
  ·simp_all
 ·obtain⟨o,es,ep,e,d,r⟩:=hm;exact⟨o,es,ep,D1 _ _ (λz=>by grind) e,d,r⟩
 ·by_cases hf:b=h'.objs.size
  ·subst hf;rw[ao] at e;cases e;exact⟨g9 _ rfl,⟨_,g9 _ rfl⟩,λh1 h2 p k=>k _ p⟩
  ·rw[au hf] at e;by_cases hc:b=c'
   ·subst hc;rw[ao] at e;cases e;obtain⟨c2,o,vs,t,ec,e1,e2,e3⟩:=IE;cases ec;have Rz:=dh (ID (rR (X.env.qual++"<lambda>") args gJ scope ((X.mg "__name__").getD .none) b ij)) e1;exact⟨⟨o,vs,t,Rz,e2,e3⟩,⟨_,Rz⟩,λh1 h2 ⟨o,vs,t,p1,p2,p3⟩ k=>⟨o,vs,t,k _ p1,p2,p3⟩⟩
   ·rw[au hc] at e;by_cases hb:b=T
    ·subst hb;rw[ao] at e;cases e;exact dh _ Rx
    ·rw[au hb] at e;refine(I.ax b o e).oR (λa u ha q=>D1 a u (λz=>?_) q) (λa q=>iz a _ q (λz=>by simp_all)) (λa xs q=>iz a _ q (λz=>by simp_all));simp_all
def D4(P:Pg)(w:Wd)(K:FR)(mg:MG)(base:Heap)(k:Nat)(q:Str)(fdOf:Addr→Value→FuncData)(ps:LS)(sp:Sp):Prop:=
 ∀(f c:Addr)(ij:Value)(A:Around)(outer:List Env)(s:Sh)(H:Hp)(us:LV)(vs:aq)(Q:VK),dw k A→ŭ H→H f=some (yS f (fdOf c ij))→H c=some (yT c q)→ba vs us→vs.length=ps.length→sp vs H Q E0→
  codeAny Àh A (.call ą ⟨us,[]⟩) (CR aE outer P w H s Q E0) s
def adz{P:Pg}{w:Wd}{K:FR}{mg:MG}{base:Heap}{k:Nat}{q:Str}{args:Arguments}{gJ:Expr}{scope:Scope}{pm:Value}{N ps:LS}{sp:Sp}(S:bC N ps scope)(IF:∀(c:Addr)(ij:Value)(us:LV),us.length=ps.length→bindArgs (rR q args gJ scope pm c ij) ⟨us,[]⟩=pure ϟ)(tQ:∀(f c:Addr)(A:Around)(outer:List Env)(s:Sh)(H:Hp)(vs:aq)(Q:VK),dw k (A.deeper (envOfC q scope s.heap.objs.size f (.ref c)))→sp vs H Q E0→
   ∃t,PE (ō N q scope f (.ref c) A outer s H E0).rD gJ t∧t ŕ H Q):D4 P w K mg base (k+1) q (rR q args gJ scope pm) ps sp:=by
 intro f c ij A outer s H us vs Q hr e0 hf hc r hl jd;have KX:=e0.mod.uS.keeps λb o e=>(e0.bs b o e).1;have Ob:=e0.mod.nolimit.keeps λb o e=>(e0.bs b o e).1;have HE:∀y∈ps.zip us,scope.names.lookup y.1=some .local∨(scope.names.lookup y.1=some .cell∧((cellsFrom Ö scope.names []).lookup y.1).isSome=true):=λ⟨n,v⟩ hy=>by
  rcases S.par n (CH hy).1 with q|q
  ·simp_all
  ·exact .inr ⟨q,PySem.W.cellsFrom_some _ _ _ (.inl q)⟩
 obtain⟨o,vj,t',c1,c2,c3⟩:=(e0.ax c _ hc).1;refine PySem.W.kla_callFunE hr.depth (e0.ax f _ hf).1 rfl S.co S.gen rfl ⟨c,o,vj,t',rfl,c1,c2,c3⟩ ?_;have hul:us.length=ps.length:=by rw[←r.length];exact hl
 rw[IF c ij us hul];refine c7 ?_;refine aoz S.kind HE λenv he s1 x=>?_;subst he;refine⟨Ob.keeps x.toInCall.keep,PySem.W.kla_codeExpr ?_⟩;obtain⟨t,ht,hq⟩:=tQ f c A outer s H vs Q (hr.deeper _) jd;have I:Inv (ō N q scope f (.ref c) A outer s H E0) [] ŕ H s1:=Pw S hr.hd e0 hl r x;exact i6 (ht [] s1 ŕ H Q (I.iA _) hq) (λv s' ⟨y,H',J,rv,qq⟩=>⟨y,H',J.os,J.bare,J.base,J.ax,rv,qq⟩) λ_ _ z=>False.elim z
def Be(H:Hp)(f:Addr)(q:Str)(fdOf:Addr→Value→FuncData):Prop:=∃c ij,H f=some (yS f (fdOf c ij))∧H c=some (yT c q)
def adB(i:Nat)(q:Str)(fdOf:Addr→Value→FuncData)(ps:LS)(sp:Sp)(t:TA):TE:=λσ H Q=>∃f,σ[i]? =some Áw∧Be H f q fdOf∧t σ H λvs H1=>Be H1 f q fdOf∧vs.length=ps.length∧sp vs H1 Q E0
variable{x:Str}{i:Nat}{p pos:Pos}{e:Expr}{es:List Expr}{t:TA}{k:Nat}{q:Str}{fdOf:Addr→Value→FuncData}{ps:LS}{sp:Sp}
def adC(L:D4 X.prog X.w X.K X.mg X.base k q fdOf ps sp)(hr:dw k X.A)(hN:X.N[i]? =some x)(hv:wu X.env.scope x)(ha:PA X (e::es) t)(hd:(x==("__debug__":Str))=false:=by decide)(j8:(x==("__classdict__":Str))=false:=by decide)(he:starEach (e::es) X.env=(false,eval e X.env)::starEach es X.env:=by rfl) (df:(backTo pos ô).any (·.1)=false:=by rfl):PE X (.Call ž (e::es) [] pos) (adB i q fdOf ps sp t):=by
 show Ô;obtain⟨f,hf,⟨c,ij,l1,l2⟩,h⟩:=h;have lv:=O0 (X:=X) (pos:=p) hN hv hd j8 pins s σ H (λv H1=>v=.ref f∧H1=H) I ⟨_,hf,rfl,rfl⟩;refine yb (i6 lv (λu s1 ⟨v,H1,I1,rv,ev,eh⟩=>?_) λ_ _ z=>z);subst ev eh;cases rv;refine PySem.W.callWith_F ⟨_,_,_,_,(I1.ax f _ l1).1⟩ (aL (ha pos pins s1 σ H1 _ I1 h) λus s2 ⟨vs,H2,I2,r,⟨c',adD,m1,m2⟩,hl,hq⟩=>⟨⟨_,_,_,_,(I2.ax f _ m1).1⟩,?_⟩) he df;refine Cr (wb (L f c' adD X.A X.stack s2 H2 us vs Q hr I2.AA m1 m2 r hl hq) λr s' hq=>?_);cases r with
 |error e=>exact rO pins σ H2 s2 e s' I2 hq
 |ok fl=>
  cases fl with
  |ret u=>exact I2.after hq
  |next=>exact False.elim hq
  |brk=>exact False.elim hq
  |cont=>exact False.elim hq
end
def yU(i j:Int):Int:=if j>i then j else i
section
def adE(hc:X.calm=true):k8 X (.builtin "max") (λxs H Q=>∃i j k,xs=[.int i,.int j,.int k]∧Q (.int (yU (yU i j) k)) H):=by
 intro pins s σ H xs us Q I r h;obtain⟨i,j,k,rfl,q⟩:=h;cases r with
 |cons r1 r=>cases r with
  |cons r2 r=>cases r with
   |cons r3 r=>
    cases r;obtain⟨t1,rfl⟩:=r1;obtain⟨t2,rfl⟩:=r2;obtain⟨t3,rfl⟩:=r3;refine max_three_ints ă λh' tk kp=>⟨_,H,I.kept kp,?_,q⟩;unfold yU;by_cases h1:j>i
    ·rw[af h1,af h1];by_cases h2:k>j
     ·rw[af h2,af h2];exact⟨_,rfl⟩
     ·rw[ah h2,ah h2];exact⟨_,rfl⟩
    ·rw[ah h1,ah h1];by_cases h2:k>i
     ·rw[af h2,af h2];exact⟨_,rfl⟩
     ·rw[ah h2,ah h2];exact⟨_,rfl⟩
end
end L2
end
section
namespace L2
open PySem PySem.Spec PyProof.Rows
open PySem.W (WData Codec OpenSpec Well WellAll ReadsW ReadsAllW)
mutual
inductive Dw(K:FR)(H:Hp):V→WData→Prop
 |aJ:Dw K H .aJ .none
 |bl (b:Bool):Dw K H (.bl b) (.bool b)
 |int (i:Int):Dw K H Âr Âr
 |str (x:Str):Dw K H Æw Æw
 |ja (b:Array UInt8):Dw K H (.ja b) (.bytes b.toList)
 |lst {a:Addr} {xs:aq} {ds:List WData}:ß a xs→lU K H xs ds→Dw K H Ě (.list ds)
 |tup {a:Addr} {xs:aq} {ds:List WData}:ť a xs→lU K H xs ds→Dw K H Ě (.tuple ds)
inductive lU(K:FR)(H:Hp):aq→List WData→Prop
 |nil:lU K H [] []
 |cons {v:V} {vs:aq} {d:WData} {ds:List WData}:Dw K H v d→lU K H vs ds→lU K H (v::vs) (d::ds)
end
theorem RA{K:FR}{H:Hp}:∀ns:LI,lU K H Ţ (ns.map WData.int):=by
 intro ns;induction ns with
 |nil=>exact .nil
 |cons n r ih=>
  exact .cons (.int n) ih
theorem IG{K:FR}{H:Hp}(ns:LI):∀(xs:aq),lU K H xs (ns.map WData.int)→xs=ns.map V.int:=by
 induction ns with
 |nil=>
  intro xs h;cases h;rfl
 |cons n r ih=>
  intro xs h;cases h with
  |cons h1 h2=>
   cases h1;rw[ih _ h2] <;> rfl
section
variable{P:Pg}{w:Wd}{K:FR}{H:Hp}{h:Heap}{R:PySem.W.WRecords}{cl:Str→OA}
def adF{a:Addr}{xs:aq}(ax:Į h)(KX:K.In h)(q:ß a xs):∃(aj:LV)(o:Obj)(n:Nat),ba xs aj∧h.get? a=some o∧o.cls=.type "list"∧o.data=.seq aj.toArray n:=by
 rcases q with q|⟨o,aj,n,e,hc,_,hd,_,hv⟩
 ·obtain⟨_,aj,n,hv,e⟩:=(q.ok ax);simp_all
 ·exact⟨aj.toList,o,n,hv,KX _ _ e,hc,by simp[hd]⟩
def adG{a:Addr}{xs:aq}(ax:Į h)(KX:K.In h)(q:ť a xs):∃(aj:LV)(o:Obj)(n:Nat),ba xs aj∧h.get? a=some o∧o.cls=.type "tuple"∧o.data=.seq aj.toArray n:=by
 rcases q with q|⟨o,aj,n,e,hc,hd,_,hv⟩
 ·obtain⟨_,aj,hv,o,e,hc,n,hd⟩:=(q.ok ax);simp_all
 ·exact⟨aj.toList,o,n,hv,KX _ _ e,hc,by simp[hd]⟩
def Dw.reads(ax:Į h)(KX:K.In h)(d:WData)(v:V)(u:Value)(x:Dw K H v d):RelV v u→∃as,ReadsW R cl h u d as:=
 Dw.rec (motive_1:=λv d _=>∀u,RelV v u→∃as,ReadsW R cl h u d as) (motive_2:=λvs ds _=>∀us,ba vs us→∃as,ReadsAllW R cl h us ds as)
  (λu r=>by cases r;exact⟨_,ReadsW.none⟩) (λb u r=>by cases r;exact⟨_,ReadsW.bool b⟩) (λi u r=>by obtain⟨t,rfl⟩:=r;exact⟨_,ReadsW.int i t⟩) (λx u r=>by obtain⟨t,rfl⟩:=r;exact⟨_,ReadsW.str x t⟩)
  (λb u r=>by obtain⟨t,rfl⟩:=r;exact⟨_,ReadsW.bytes _ t⟩)
  (λhs _ ih u r=>by
   cases r;obtain⟨aj,o,n,rv,ho,hc,hd⟩:=adF ax KX hs;obtain⟨as,hr⟩:=ih aj rv;exact⟨_,ReadsW.list ho hc hd hr⟩)
  (λhs _ ih u r=>by
   cases r;obtain⟨aj,o,n,rv,ho,hc,hd⟩:=adG ax KX hs;obtain⟨as,hr⟩:=ih aj rv;exact⟨_,ReadsW.tuple ho hc hd hr⟩)
  (λus r=>by cases r;exact⟨_,ReadsAllW.nil⟩)
  (λ_ _ i1 i2 us r=>by
   cases r with
   |cons r1 r2=>
    obtain⟨as,q1⟩:=i1 _ r1;obtain⟨bs,q2⟩:=i2 _ r2;exact⟨_,ReadsAllW.cons q1 q2⟩) x u
end
mutual
def qC:WData→Bool
 |.none=>true
 |.bool _=>true
 |.int _=>true
 |.str _=>true
 |.bytes _=>true
 |.list xs=>ph xs
 |.tuple xs=>ph xs
 |_=>false
def ph:List WData→Bool
 |[]=>true
 |x::r=>qC x&&ph r
end
theorem adH{α:Type}{f:α→WData}(h:∀a,qC (f a)=true):∀l:List α,ph (l.map f)=true:=by
 intro l;induction l with
 |nil=>exact rfl
 |cons x r ih=>
  show(qC (f x)&&ph (r.map f))=true;rw[h x,ih] <;> rfl
theorem vm:∀(c:Codec)(a:c.denote),qC (c.enc a)=true
 |.unit,_=>rfl
 |.bool,_=>rfl
 |.int _ _,_=>rfl
 |.nat _ _,_=>rfl
 |.u8,_=>rfl
 |.bytes _ _,_=>rfl
 |.text _ _ _ _,_=>rfl
 |.list _ _ c,a=>adH (λx=>vm c x) a
 |.pair c d,a=>by
  show(qC (c.enc a.1)&&(qC (d.enc a.2)&&true))=true;rw[vm c a.1,vm d a.2] <;> rfl
 |.triple c d e,a=>by
  show(qC (c.enc a.1)&&(qC (d.enc a.2.1)&&(qC (e.enc a.2.2)&&true)))=true;rw[vm c a.1,vm d a.2.1,vm e a.2.2] <;> rfl
 |.option c,none=>rfl
 |.option c,some x=>vm c x
theorem adI(cs:List Codec):∀(a:Codec.denoteAll cs),ph (Codec.encAll cs a)=true:=by
 induction cs with
 |nil=>exact @λ_=>rfl
 |cons c cs ih=>
  intro a;show(qC (c.enc a.1)&&ph (Codec.encAll cs a.2))=true;rw[vm c a.1,ih a.2] <;> rfl
theorem RB{xs:List WData}:∀{d:WData},d∈xs→d.weight≤WData.weightAll xs:=by
 induction xs with
 |nil=>exact @λd h=>absurd h Â
 |cons x r ih=>
  intro d h;show d.weight≤x.weight+1+WData.weightAll r;rcases bf.mp h with e|m
  ·rw[e];omega
  ·have z:=ih m;omega
def toV:Value→V
 |.none=>.aJ
 |.bool b=>.bl b
 |.int i _=>.int i
 |.str x _=>.str x
 |.bytes b _=>.ja b
 |.ref a=>.ref a
 |_=>.aJ
def jv(A:LA):Value→Prop
 |.none=>True
 |.bool _=>True
 |.int _ _=>True
 |.str _ _=>True
 |.bytes _ _=>True
 |.ref a=>a∈A
 |_=>False
theorem jv.mono{A B:LA}(h:∀a∈A,a∈B):∀{u:Value},jv A u→jv B u:=λ{u}x=>by
 cases u with
 |ref a=>exact h a x
 |none=>trivial
 |bool b=>trivial
 |int i t=>trivial
 |str s t=>trivial
 |bytes b t=>trivial
 |_=>exact False.elim x
theorem adJ{A:LA}{u:Value}(x:jv A u):RelV (toV u) u:=by
 cases u with
 |ref a=>rfl
 |none=>rfl
 |bool b=>rfl
 |int i t=>exact⟨t,rfl⟩
 |str s t=>exact⟨t,rfl⟩
 |bytes b t=>exact⟨t,rfl⟩
 |_=>exact False.elim x
theorem Bf{A:LA}{vs:LV}:(∀u∈vs,jv A u)→ba ų vs:=by
 induction vs with
 |nil=>exact @λ_=>.nil
 |cons u r ih=>
  intro h;exact .cons (adJ (h u (gu ..))) (ih λx hx=>h x (aN _ hx))
def n8(h:Heap)(A:LA)(a:Addr):Prop:=∃vs:LV,vs.length≤sizeLine∧(∀u∈vs,jv A u)∧
 (h.get? a=some {cls:=.type "list",data:=.seq vs.toArray}∨h.get? a=some {cls:=.type "tuple",data:=.seq vs.toArray})
def n8.mono{h:Heap}{A B:LA}{a:Addr}(k:∀a∈A,a∈B)(x:n8 h A a):n8 h B a:=by
 obtain⟨vs,h1,h2,h3⟩:=x;exact⟨vs,h1,λu hu=>(h2 u hu).mono k,h3⟩
theorem IH{P:Params}{h:Heap}{vs:LV}:∀{ds:List WData},WellAll P h vs ds→vs.length=ds.length:=by
 induction vs with
 |nil=>intro ds h;cases h;rfl
 |cons v vs ih=>
  intro ds h;cases h with
  |cons _ b=>
   show _+1=_+1;rw[ih b]
theorem RC{P:Params}{h:Heap}{v:Value}{ds:List WData}(x:Well P h v (.list ds)):∃(a:Addr)(vs:LV),v=.ref a∧h.get? a=some {cls:=.type "list",data:=.seq vs.toArray}∧WellAll P h vs ds:=by
 cases x with
 |list ho jh=>simp_all
theorem RD{P:Params}{h:Heap}{v:Value}{ds:List WData}(x:Well P h v (.tuple ds)):∃(a:Addr)(vs:LV),v=.ref a∧h.get? a=some {cls:=.type "tuple",data:=.seq vs.toArray}∧WellAll P h vs ds:=by
 cases x with
 |tuple ho jh=>simp_all
theorem RE{P:Params}{h:Heap}{us:LV}{d:WData}{ds:List WData}(x:WellAll P h us (d::ds)):∃(v:Value)(vs:LV),us=v::vs∧Well P h v d∧WellAll P h vs ds:=by
 cases x with
 |cons a b=>grind
def adK{n:Nat}(h:n≤1048576):n≤sizeLine:=gW h Ø
section
variable{P:Params}{h:Heap}
def RF{M:WData→Prop}(n:M .none)(b:∀b,M (.bool b))(i:∀i,M Âr)(s:∀s,M (.str s))(y:∀b,M (.bytes b))(l:∀xs,(∀d∈xs,M d)→M (.list xs))(t:∀xs,(∀d∈xs,M d)→M (.tuple xs)):∀ds,ph ds=true→∀d∈ds,M d:=
 WData.rec_1 (motive_1:=λd=>qC d=true→M d) (motive_2:=λds=>ph ds=true→∀d∈ds,M d) (motive_3:=λ_=>True) (motive_4:=λ_=>True) (motive_5:=λ_=>True) (motive_6:=λ_=>True)
  (λ_=>n) (λx _=>b x) (λx _=>i x) (λx _=>s x) (λxs ih p=>l xs (ih p)) (λxs ih p=>t xs (ih p)) Àb (λ_ p=>Bool.noConfusion p) (λx _=>y x) (λ_ p=>Bool.noConfusion p) Àb Àb (λ_ _ _ p=>Bool.noConfusion p)
  (λ_ d m=>by cases m) (λx xs i1 i2 p d m=>by
   have q:=uQ.mp p;cases m with
   |head=>exact i1 q.1
   |tail _ m=>exact i2 q.2 d m) trivial Ãb trivial Ãb Ãb (λ_ _ _=>trivial)
theorem II:∀ds:List WData,(∀d∈ds,∀v,Well P h v d→d.weight≤1048576→∃A:LA,jv A v∧∀a∈A,n8 h A a)→∀vs:LV,WellAll P h vs ds→(∀d∈ds,d.weight≤1048576)→∃A:LA,(∀u∈vs,jv A u)∧∀a∈A,n8 h A a:=by
 intro ds;induction ds with
 |nil=>
  intro _ vs x _;cases x;exact⟨[],λu m=>absurd m Â,λa m=>absurd m Â⟩
 |cons d ds ih=>
  intro one vs x z;obtain⟨v,vs,rfl,x1,x2⟩:=RE x;obtain⟨A,a1,a2⟩:=one d gu v x1 (z d gu);obtain⟨B,b1,b2⟩:=ih (λe he=>one e (aN _ he)) vs x2 λe he=>z e (aN _ he);have kA:∀b∈A,b∈A++B:=λb hb=>gK.mpr (.inl hb);have kB:∀b∈B,b∈A++B:=λb hb=>gK.mpr (.inr hb);refine⟨A++B,λu hu=>?_,λb hb=>?_⟩
  ·rcases bf.mp hu with e|m
   ·rw[e];exact a1.mono kA
   ·exact(b1 u m).mono kB
  ·rcases gK.mp hb with m|m
   ·exact(a2 b m).mono kA
   ·exact(b2 b m).mono kB
def adL(ds:List WData)(vs:LV)(x:WellAll P h vs ds)(p:ph ds=true)(z:∀d∈ds,d.weight≤1048576):∃A:LA,(∀u∈vs,jv A u)∧∀a∈A,n8 h A a:=by
 have nl:∀v,jv [] v→∃A:LA,jv A v∧∀a∈A,n8 h A a:=λv o=>⟨[],o,λa m=>absurd m Â⟩;have sq:∀(a:Addr)(vs:LV)(ds:List WData),vs.length=ds.length→WData.weightAll ds≤1048576→(h.get? a=some {cls:=.type "list",data:=.seq vs.toArray}∨h.get? a=some {cls:=.type "tuple",data:=.seq vs.toArray})→(∃A:LA,(∀u∈vs,jv A u)∧∀a∈A,n8 h A a)→∃A:LA,jv A Ě∧∀a∈A,n8 h A a:=by
  intro a vs ds e z ho h0;obtain⟨A,h1,h2⟩:=h0;have k:∀b∈A,b∈a::A:=λb hb=>aN _ hb;refine⟨a::A,gu ..,λb hb=>?_⟩;rcases bf.mp hb with e1|m
  ·rw[e1];exact⟨vs,adK (by rw[e];exact gW (PySem.W.length_le_weightAllW ds) z),λu hu=>(h1 u hu).mono k,ho⟩
  ·exact(h2 b m).mono k
 refine II ds (RF (λv x _=>?_) Âw Âw Âw Âw (λxs ih v x z=>?_) (λxs ih v x z=>?_) ds p) vs x z
 ·cases x;exact nl _ trivial
 ·cases x;exact nl _ trivial
 ·cases x;exact nl _ trivial
 ·cases x;exact nl _ trivial
 ·cases x;exact nl _ trivial
 ·obtain⟨a,vs,rfl,ho,jh⟩:=RC x;have z2:=z;exact sq a vs xs (IH jh) z2 (.inl ho) (II xs ih vs jh λd hd=>gW (RB hd) z2)
 ·obtain⟨a,vs,rfl,ho,jh⟩:=RD x;have z2:=z;exact sq a vs xs (IH jh) z2 (.inr ho) (II xs ih vs jh λd hd=>gW (RB hd) z2)
end
def D5(o:Obj):Option HO:=match o.data with
 |.seq vs _=>if (o.cls==Value.type "list")=true then some (.ck o (.lst (vs.toList.map toV))) else some (.ck o (.tup (vs.toList.map toV)))
 |_=>none
def iW(K:FR)(h:Heap)(A:LA):Hp:=λb=>if b∈A then (if (K.lookup b).isNone=true then (h.get? b).bind D5 else none) else none
def RG(vs:LV):D5 {cls:=.type "list",data:=.seq vs.toArray}=some (.ck {cls:=.type "list",data:=.seq vs.toArray} (.lst ų)):=by
 rfl
def RH(vs:LV):D5 {cls:=.type "tuple",data:=.seq vs.toArray}=some (.ck {cls:=.type "tuple",data:=.seq vs.toArray} (.tup ų)):=by
 rfl
section
variable{P:Pg}{w:Wd}{K:FR}{h:Heap}{A:LA}
def D6{b:Addr}{o:Obj}(hb:b∈A)(hk:K.lookup b=none)(e:h.get? b=some o):iW K h A b=D5 o:=by
 unfold iW;grind
def adM{b:Addr}{u:HO}(q:iW K h A b=some u):b∈A∧K.lookup b=none:=by
 unfold iW at q;by_cases hb:b∈A
 ·rw[af hb] at q;cases hk:K.lookup b with
  |none=>simp_all
  |some o=>
   simp_all
 ·simp_all
def D7(ar:∀a∈A,n8 h A a){b:Addr}{u:HO}(q:iW K h A b=some u):K.lookup b=none∧∃vs:LV,vs.length≤sizeLine∧(∀u∈vs,jv A u)∧
  ((h.get? b=some {cls:=.type "list",data:=.seq vs.toArray}∧u=.ck {cls:=.type "list",data:=.seq vs.toArray} (.lst ų))∨
   (h.get? b=some {cls:=.type "tuple",data:=.seq vs.toArray}∧u=.ck {cls:=.type "tuple",data:=.seq vs.toArray} (.tup ų))):=by
 obtain⟨hb,hk⟩:=adM q;obtain⟨vs,h1,h2,h3⟩:=ar b hb;refine⟨hk,vs,h1,h2,?_⟩;rcases h3 with e|e
 ·rw[D6 hb hk e,RG] at q;exact .inl ⟨e,(aO q).symm⟩
 ·rw[D6 hb hk e,RH] at q;exact .inr ⟨e,(aO q).symm⟩
def adN(KX:K.In h)(ar:∀a∈A,n8 h A a){a:Addr}{vs:LV}(ha:a∈A)(e:h.get? a=some {cls:=.type "list",data:=.seq vs.toArray}):(∀u∈vs,jv A u)∧aa K (iW K h A) a ų:=by
 obtain⟨us,h1,h2,h3⟩:=ar a ha;have hu:us=vs:=by
  simp_all
 subst hu;refine⟨h2,?_⟩;cases hk:K.lookup a with
 |none=>exact .inl (.inr ⟨_,by rw[D6 ha hk e,RG]⟩)
 |some o=>
  have e2:=KX a o hk;rw[e] at e2;obtain rfl:=aO e2;exact .inr ⟨_,us.toArray,_,hk,rfl,rfl,rfl,by assumption,by simpa using Bf h2⟩
def adO(KX:K.In h)(ar:∀a∈A,n8 h A a){a:Addr}{vs:LV}(ha:a∈A)(e:h.get? a=some {cls:=.type "tuple",data:=.seq vs.toArray}):(∀u∈vs,jv A u)∧bu K (iW K h A) a ų:=by
 obtain⟨us,h1,h2,h3⟩:=ar a ha;have hu:us=vs:=by
  simp_all
 subst hu;refine⟨h2,?_⟩;cases hk:K.lookup a with
 |none=>exact .inl (.inr ⟨_,by rw[D6 ha hk e,RH]⟩)
 |some o=>
  have e2:=KX a o hk;rw[e] at e2;obtain rfl:=aO e2;exact .inr ⟨_,us.toArray,_,hk,rfl,rfl,by assumption,by simpa using Bf h2⟩
theorem IJ{Pm:Params}{B:Hp}:∀ds:List WData,(∀d∈ds,∀v,Well Pm h v d→jv A v→Dw K B (toV v) d)→∀vs:LV,WellAll Pm h vs ds→(∀u∈vs,jv A u)→lU K B ų ds:=by
 intro ds;induction ds with
 |nil=>
  intro _ vs x _;cases x;exact .nil
 |cons d ds ih=>
  intro one vs x hu;obtain⟨v,vs,rfl,x1,x2⟩:=RE x;exact .cons (one d gu v x1 (hu _ gu)) (ih (λe he=>one e (aN _ he)) vs x2 λu m=>hu u (aN _ m))
def adP{Pm:Params}(KX:K.In h)(ar:∀a∈A,n8 h A a)(ds:List WData)(vs:LV)(x:WellAll Pm h vs ds)(p:ph ds=true)(hu:∀u∈vs,jv A u):lU K (iW K h A) ų ds:=by
 refine IJ ds (RF (λv x _=>?_) (λb v x _=>?_) (λi v x _=>?_) (λs v x _=>?_) (λb v x _=>?_) (λxs ih v x hu=>?_) (λxs ih v x hu=>?_) ds p) vs x hu
 ·cases x;exact .aJ
 ·cases x;exact .bl b
 ·cases x;exact .int i
 ·cases x;exact .str s
 ·cases x;have z:=Dw.ja (K:=K) (H:=iW K h A) b.toArray;exact z
 ·obtain⟨a,vs,rfl,ho,jh⟩:=RC x;obtain⟨h2,hs⟩:=adN KX ar hu ho;exact .lst hs (IJ xs ih _ jh h2)
 ·obtain⟨a,vs,rfl,ho,jh⟩:=RD x;obtain⟨h2,hs⟩:=adO KX ar hu ho;exact .tup hs (IJ xs ih _ jh h2)
end
def adQ{ds:List WData}(h:WData.layableAll ds=true):∀d∈ds,d.weight≤1048576:=λd hd=>
 (PySem.W.layableW_iff.mp (kZ.mp h d hd)).2.2
theorem adR(cs:List Codec):∀(a:Codec.denoteAll cs),(Codec.encAll cs a).length=cs.length:=by
 induction cs with
 |nil=>exact @λ_=>rfl
 |cons c cs ih=>
  intro a;show(Codec.encAll cs a.2).length+1=cs.length+1;rw[ih a.2]
section
variable{K:FR}{H H':Hp}
def adS(s:ai H H')(h:ť a xs):bu K H' a xs:=by
 rcases h with (h|⟨o,h⟩)|h
 ·exact .inl (.inl (s _ _ h))
 ·exact .inl (.inr ⟨o,s _ _ h⟩)
 ·exact .inr h
def adT(s:ai H H')(ds:List WData)(vs:aq)(x:lU K H vs ds):lU K H' vs ds:=
 lU.rec (motive_1:=λv d _=>Dw K H' v d) (motive_2:=λvs ds _=>lU K H' vs ds) .aJ .bl .int .str .ja (λh _ r=>.lst (s.seq h) r) (λh _ r=>.tup (adS s h) r) .nil (λ_ _ h r=>.cons h r) x
end
def adU{P:Pg}{w:Wd}{K:FR}{mg mb:MG}{CX:mT}{k:Nat}{fa:Addr}{fd:FD}{ps:LS}{sp:Sp}{s₁:Sh}{sU:LV}{ds:List WData}{R:PySem.W.WRecords}{cl:Str→OA}{d0:WData}{c T:Addr}(KX:K.In s₁.heap) (tF:s₁.heap.Ns mainGlobals mg) (hb:s₁.heap.Ns builtinsNs mb) (hbb:∀x:Str,x≠"__name__"→mb x=bootBuiltins x) (adW:s₁.heap.NoLimit) (hg:s₁.gens= #[])(Bg:WellAll w.params s₁.heap sU ds) (df:ph ds=true) (hwt:∀d∈ds,d.weight≤1048576) (hr:dw k callerA) (hT:s₁.heap.TableAt c T #[]) (RI:K.lookup T=none) (vo:xh mg s₁.heap)(F:∀base:Heap,K.In base→base.Ns mainGlobals mg→xh mg base→Ê CX k fa fd ps sp) (IF:∀(s:Sh)(us:LV),us.length=ps.length→BindsTo s fd ⟨us,[]⟩ ϟ) (cJ:ds.length=ps.length)(jd:∀(H:Hp)(xs:aq),H T=some (.gD #[])→lU K H xs ds→sp xs H (λv H'=>Dw K H' v d0) λ_ _ _=>False)(IK:∀H e s',CX [] H s₁ (λ_ _ _=>False) e s'→False):
  codeAny Àh callerA (.call (.ref fa) ⟨sU,[]⟩) (λr s'=>∃u as,r=.ok (.ret u)∧ReadsW R cl s'.heap u d0 as∧OldK s₁.heap s'.heap∧s'.os=s₁.os∧AllBare s'.gens) s₁:=by
 obtain⟨A,ho,ar⟩:=adL ds sU Bg df hwt;have IL:s₁.heap.get? T=some {cls:=.none,data:=.fields #[]}:=hT.2;have AC:∀{b:Addr}{o:Obj},s₁.heap.get? b=some o→(∀vs n,o.data≠ .seq vs n)→Ĝ A b=none:=λ{b o}e d=>by
  cases q:Ĝ A b with
  |none=>rfl
  |some u=>
   obtain⟨_,vs,_,_,⟨e2,_⟩|⟨e2,_⟩⟩:=D7 ar q
   ·grind
   ·grind
 have aT:=AC IL λvs n z=>by cases z
 have sm:ai (Ĝ A) (upd (Ĝ A) T (.gD #[])):=λb o e=>by
  rw[au (eN e aT)];exact e
 have hS:=adT sm _ _ (adP KX ar ds sU Bg df ho);have hV:=Bf ho;have Ea:upd (Ĝ A) T (.gD #[]) T=some (.gD #[]):=ao;have hN:∀b,b≠T→upd (Ĝ A) T (.gD #[]) b=iW K s₁.heap A b:=λb hb=>au hb;have hO:∀b u,b≠T→upd (Ĝ A) T (.gD #[]) b=some u→∃o u',u=.ck o u':=λb u hb e=>by
  rw[hN b hb] at e;obtain⟨_,vs,_,_,⟨_,e⟩|⟨_,e⟩⟩:=D7 ar e
  ·simp_all
  ·simp_all
 have ax:eO P w (upd (Ĝ A) T (.gD #[])) s₁.heap:=λb u q=>by
  by_cases qB:b=T
  ·subst qB;rw[Ea] at q;cases q;exact IL
  ·rw[hN b qB] at q;obtain⟨_,vs,h1,h2,⟨e,rfl⟩|⟨e,rfl⟩⟩:=D7 ar q
   ·exact⟨e,by simp_all,vs,_,Bf h2,e⟩
   ·exact⟨e,by simp_all,vs,Bf h2,_,e,rfl,_,rfl⟩
 have hK:∀b u,upd (Ĝ A) T (.gD #[]) b=some u→K.lookup b=none:=λb u q=>by
  by_cases qB:b=T
  ·grind
  ·rw[hN b qB] at q;exact(D7 ar q).1
 have IM:∀{b:Addr}{o:Obj},s₁.heap.get? b=some o→(∀vs n,o.data≠ .seq vs n)→(∀vs,o.data≠ .fields vs)→upd (Ĝ A) T (.gD #[]) b=none:=λ{b o}e d1 d2=>by
  grind
 generalize upd (Ĝ A) T (.gD #[])=H at hS Ea hO ax hK IM;have IP:∀{b:Addr}{o:Obj},s₁.heap.get? b=some o→H b=none→(tJ s₁.heap H).get? b=some o:=λe n=>YQ e n;have Ec:∀{b:Addr}{m:MG},s₁.heap.Ns b m→(tJ s₁.heap H).Ns b m:=λ{b m} ⟨o,es,ep,e,d,r⟩=>⟨o,es,ep,IP e (IM e (λvs n z=>by simp_all) λvs z=>by simp_all),d,r⟩;have nK:∀b o,K.lookup b=some o→H b=none:=λb o e=>by
  cases q:H b with
  |none=>rfl
  |some u=>
   grind
 have RJ:=λb o e=>IP (KX b o e) (nK b o e);have hM:Mod K mg Åz:=⟨RJ,Ec tF,⟨mb,Ec hb,hbb⟩,let ⟨mc,h1,h2⟩:=adW;⟨mc,Ec h1,h2⟩⟩;have hBm:xh mg Åz:=by
  obtain⟨bm,ob,b1,b2,b3,b4,b5,b6⟩:=vo;exact⟨bm,ob,b1,b2,IP b3 (IM b3 (λvs n z=>by simp_all) λvs z=>by simp_all),b4,b5,b6⟩
 have e0:u5 P w K mg Åz callerA [] s₁ H:=⟨rfl,hM,λb o e=>YR e,Cv (YO _ _),trivial,λb hb=>absurd (show b∈([]:LA) from hb) Â,ax,.of_eq hg⟩;have hl:sU.length=ps.length:=by rw[IH Bg];exact cJ
 refine wb ((F _ RJ (Ec tF) hBm).run callerA [] s₁ H ⟨sU,[]⟩ sU (sU.map toV) _ _ hr e0 (IF s₁ sU hl) hV (jd H _ Ea hS)) λr s' x=>?_;cases r with
 |error e=>exact(IK H e s' x).elim
 |ok fl=>
  cases fl with
  |next=>exact False.elim x
  |brk=>exact False.elim x
  |cont=>exact False.elim x
  |ret u=>
   obtain⟨v,H',os,bare,un,IQ,r',q⟩:=x;have kept:=λb o qB e=>by
    cases q2:H b with
    |none=>exact un.keep b o e q2 (by intro z;exact absurd (show b∈([]:LA) from z) Â) Â
    |some u2=>
     obtain⟨ob,u3,rfl⟩:=hO b u2 qB q2;have z2:=un.qd b ob _ q2;obtain⟨e1,_⟩:=ax b _ q2;obtain⟨e2,_⟩:=IQ b _ z2;simp_all
   have KX':=λb o e=>kept b o (λz=>by simp_all) (KX b o e);obtain⟨as,RK⟩:=Dw.reads (R:=R) (cl:=cl) IQ KX' d0 v u q r';obtain⟨i4,e1⟩:=un.tI T #[] Ea;have e2:s'.heap.get? T=some {cls:=.none,data:=.fields (#[]++i4)}:=IQ T _ e1;refine⟨u,as,rfl,RK,⟨λb o e=>?_,λb o e=>?_⟩,os,bare⟩
   ·by_cases qB:b=T
    ·subst qB;rw[IL] at e;cases e;exact .inr (.inl ⟨hT.isCodeTable,rfl,#[],i4,rfl,e2⟩)
    ·exact .inl (kept b o qB e)
   ·grind
def ad0{r:OpenSpec}{k:Nat}{q:Pg}{loose:LS}{XP:MG→Heap→Prop}{YP:Wd→Heap→Prop}{d:DefRec}{K:Params→FR}{CX:mT}{ps:LS}{sp:FR→Addr→Sp}(ad1:r.wellSaid=true) (IR:d.params.defaults=[]) (cJ:r.args.length=ps.length) (hr:dw k callerA)(hY:∀(w:Wd)(h:Heap),YP w h→(K w.params).In h) (IE:((recsOf q).any λd'=>d'.name==d.name)=true)(F:∀(w:Wd)(mg:MG)(fa:Addr)(h:Heap),YP w h→(K w.params).In h→h.Ns mainGlobals mg→mg d.name=some (.ref fa)→
   ∃(fd:FD)(o:Obj)(c T:Addr),(K w.params).lookup fa=some o∧o.data=.func fd∧fd.code=.ref c∧Bd Æs c T∧(K w.params).lookup T=none∧(∀(s:Sh)(us:LV),us.length=ps.length→BindsTo s fd ⟨us,[]⟩ ϟ)∧
    ∀base:Heap,(K w.params).In base→base.Ns mainGlobals mg→xh mg base→a8 r.prog w Æs mg base CX k fa fd ps (sp Æs T))
  (jd:∀(K:FR)(T:Addr)(H:Hp)(xs:aq)(a:Codec.denoteAll r.args),H T=some (.gD #[])→Codec.withinAll r.args a=true→Codec.app r.args r.asked a=true→lU K H xs (Codec.encAll r.args a)→
   sp K T xs H (λv H'=>Dw K H' v (r.ret.enc (Codec.app r.args r.f a))) λ_ _ _=>False)
  (IK:∀(H:Hp)(s:Sh)(e:Value)(s':Sh),CX [] H s (λ_ _ _=>False) e s'→False):
  PySem.W.WalkOS q loose XP YP r d [] (λf vs=>PySem.call f vs):=by
 intro w jb s₁ mg mb G Y fa o pm cd iO dV kV ho hd j8 hD Ed hg args sU as RL ad2 RK Bg hlo;obtain⟨a,e1,e2⟩:=PySem.W.os_pre_some RL;obtain⟨e3,tV⟩:=Codec.encAll_of_decAll r.args args a e1;subst e3;have KX:=hY w _ Y;obtain⟨fd,o',c,T,k1,k2,k3,hC,RI,hb,hF⟩:=F w mg fa _ Y KX G.T.g Ed;obtain⟨d',oU,hn⟩:=uP.mp IE;have hn:=ya.mp hn;obtain⟨a',o2,fd',c',P',t1,t2,t3,t4,t5,t6⟩:=G.T.tab d' oU;rw[hn,Ed] at t1;cases t1;rw[KX _ _ k1] at t2;cases t2;rw[k2] at t3;cases t3;rw[k3] at t4;cases t4;have hPT:P'=T:=by
  obtain⟨⟨ob,vs,f1,f2,f3,f4⟩,_⟩:=t6;obtain⟨ob2,vs2,_,_,_,_,_,_,_,g1,g2,g3,g4,_⟩:=hC _ KX;simp_all
 subst hPT;refine PySem.W.enter_call (wb (adU (R:=[]) (cl:=classAt jb.heap) (d0:=r.ret.enc (Codec.app r.args r.f a)) KX G.T.g G.T.b G.T.builtins G.T.nolimit hg Bg (adI _ _) (adQ ad2) hr t6 RI G.T.bmain hF hb (by rw[adR];exact cJ)
  (λH xs hO hS=>jd Æs P' H xs a hO tV e2 hS) λH e s'=>IK H s₁ e s') λr' s' hq=>?_)
 obtain⟨u,as',rfl,h1,h2,h3,h4⟩:=hq;exact⟨.inl ⟨u,_,as',rfl,λ_=>rfl,h1,(OpenSpec.post_iff ad1 tV _ _).mpr rfl,λz=>Bool.noConfusion z⟩,h2,h3,h4⟩
def RM{K:FR}{c T:Addr}{od:OA}{sl:AO}{v0 v1 v2 v3 v4 v5 v6 v8 xi IS IT IU IV IW:Value}{fl tx:Int}{tf tt:Tok}{b:Bool}{x:Str}{ts:Tok}(l:K.lookup c=some ⟨.type "code",od,.fields #[v0,v1,v2,v3,v4,v5,v6,.int fl tf,v8,.bool b,.int tx tt,.ref T,xi,IS,IT,IU,IV,IW,.str x ts],sl⟩) (ne:(c==T)=false):Bd K c T:=λh X=>
 ⟨_,_,_,_,_,_,_,_,_,X _ _ l,rfl,rfl,rfl,rfl,rfl,rfl,rfl,rfl,λz=>by rw[z] at ne;simp at ne⟩
end L2
end
section
namespace JM
open Flags
def aI(m:Int):LI→dc
 |[]=>[[]]
 |x::r=>if x=m then []::aI m r else match aI m r with
  |[]=>[[x]]
  |w::l=>(x::w)::l
def vp(m:Int)(ps:dc)(x:Int):dc:=
 if x=m then ps++[[]] else ps.dropLast++[ps.getLastD []++[x]]
theorem lp(m:Int):∀l,aI m l≠[]:=by
 intro l;induction l with
 |nil=>
  simp[aI]
 |cons x r ih=>
  unfold aI;split
  ·simp
  ·split <;> simp
def IX(m x:Int)(w:LI)(l:dc)(h:l≠[]):vp m (w::l) x=w::vp m l x:=by
 unfold vp;split
 ·rfl
 ·cases l with
  |nil=>simp_all
  |cons a l=>rfl
theorem ad5(m x:Int):∀l,aI m (l++[x])=vp m (aI m l) x:=by
 intro l;induction l with
 |nil=>
  by_cases h:x=m <;> simp[aI,vp,h]
 |cons y r ih=>
  have ih:=ih;have aQ:=lp m r;show aI m (y::(r++[x]))=_;unfold aI;split
  ·rw[ih,IX _ _ _ _ aQ]
  ·rw[ih];cases e:aI m r with
   |nil=>exact absurd e aQ
   |cons w l=>
    cases l with
    |nil=>by_cases hx:x=m <;> simp[vp,hx]
    |cons a l=>
     rw[IX m x w (a::l) Â];rw[IX m x (y::w) (a::l) Â]
def kC:LI:=[48,49,50,51,52,53,54,55,56,57,97,98,99,100,101,102]
def pj:LI:=kC++[63]
def jw:LI:=[115,101,101,110]
def uf:dc:=[[102,114,111,110,116],[98,101,104,105,110,100],[117,110,107,110,111,119,110]]
def ik:dc:=[[104,111,105,115,116],[104,111,105,115,116,32,97,98,111,118,101],[104,111,105,115,116,32,98,101,108,111,119],[104,111,105,115,116,32,97,98,111,118,101,32,98,101,108,111,119]]
def il:dc:=[[115,113,117,97,114,101],[116,97,105,108,115],[108,111,110,103],[115,104,97,112,101,63]]
def B(n:Int):UInt8:=UInt8.ofNat n.toNat
def a0(l:LI):Prop:=∀x∈l,0≤x∧x≤255
def IY(h:0≤x∧x≤255):(B x).toNat=x.toNat:=by
 unfold B;rw[UInt8.toNat_ofNat'];omega
def RN(hx:0≤x∧x≤255)(hy:0≤y∧y≤255)(e:B x=B y):x=y:=by
 have:=cz UInt8.toNat e;rw[IY hx,IY hy] at this;omega
theorem vq:∀{a b:LI},a0 a→a0 b→a.map B=b.map B→a=b
 |[],[],_,_,_=>rfl
 |[],_::_,_,_,e=>by simp at e
 |_::_,[],_,_,e=>by simp at e
 |x::a,y::b,ha,hb,e=>by
  simp only[aY,List.cons.injEq] at e;rw[RN (ha x gu) (hb y gu) e.1,vq (λz hz=>ha z (aN _ hz)) (λz hz=>hb z (aN _ hz)) e.2]
theorem xj(m:Int)(hm:0≤m∧m≤255):∀l,a0 l→cutAt (B m) ĵ=(aI m l).map ç:=by
 intro l;induction l with
 |nil=>exact @λ_=>rfl
 |cons x r ih=>
  intro h;have hx:=h x gu;have ih:=ih λz hz=>h z (aN _ hz);show(if B x=B m then []::cutAt (B m) (r.map B) else match cutAt (B m) (r.map B) with
   |[]=>[[B x]]
   |w::l=>(B x::w)::l)=(aI m (x::r)).map ç
  unfold aI;by_cases e:x=m
  ·rw[af e,af (by rw[e]),ih];rfl
  ·rw[ah e,ah λq=>e (RN hx hm q),ih];cases aI m r with
   |nil=>rfl
   |cons w l=>rfl
theorem pz(m:Int):∀{l},a0 l→∀w∈aI m l,a0 w:=by
 intro l;induction l with
 |nil=>
  intro _ w hw;simp[aI] at hw;subst hw;intro z hz;cases hz
 |cons x r ih=>
  intro h w hw;have ih:=ih λz hz=>h z (aN _ hz);unfold aI at hw;split at hw
  ·rcases bf.mp hw with rfl|hw
   ·intro z hz;cases hz
   ·exact ih w hw
  ·cases e:aI m r with
   |nil=>exact absurd e (lp m r)
   |cons a l=>
    rw[e] at hw ih;rcases bf.mp hw with rfl|hw
    ·intro z hz;rcases bf.mp hz with rfl|hz
     ·exact h _ gu
     ·exact ih a gu z hz
    ·exact ih w (aN _ hw)
theorem ad6(m:Int){l:LI}:m∉l→aI m l=[l]:=by
 induction l with
 |nil=>exact @λ_=>rfl
 |cons x r ih=>
  intro h;have h1:¬x=m:=λe=>h (by rw[e];exact gu);have h2:=ih λq=>h (aN _ q);unfold aI;rw[ah h1,h2]
theorem RO(m:Int)(r:LI){l:LI}:m∉l→aI m (l++m::r)=l::aI m r:=by
 induction l with
 |nil=>
  intro _;show aI m (m::r)=_;unfold aI;rw[af rfl];split <;> rfl
 |cons x l ih=>
  intro h;have h1:¬x=m:=λe=>h (by rw[e];exact gu);have h2:=ih λq=>h (aN _ q);show(if x=m then []::aI m (l++m::r) else match aI m (l++m::r) with
   |[]=>[[x]]
   |w::l=>(x::w)::l)=_
  rw[ah h1,h2]
def glue(m:Int):dc→LI
 |[]=>[]
 |[w]=>w
 |w::r=>w++m::glue m r
theorem ad7(m:Int)(w:LI)(h:r≠[]):glue m (w::r)=w++m::glue m r:=by
 cases r with
 |nil=>simp_all
 |cons a r=>rfl
theorem ad8(m:Int):∀l,glue m (aI m l)=l:=by
 intro l;induction l with
 |nil=>exact rfl
 |cons x r ih=>
  have ih:=ih;have aQ:=lp m r;unfold aI;split
  ·rename_i e;rw[ad7 m [] aQ,ih,e];rfl
  ·cases e:aI m r with
   |nil=>exact absurd e aQ
   |cons w l=>
    rw[e] at ih;cases l with
    |nil=>
     show x::w=x::r;rw[show w=r from ih]
    |cons a l=>
     rw[←ih];rfl
def vt(c:LI):Bool:=c.length==16&&c.all kC.contains
def Ee(h:l.all (λx=>decide (0≤x)&&decide (x≤255))=true):a0 l:=λx hx=>by
 simp_all
def ad9(h:0≤x∧x≤255):(hexValue (B x)).isSome=kC.contains x:=by
 have e:=(by decide+kernel:∀n<256,(hexValue (B (n:Nat))).isSome=kC.contains ((n:Nat):Int)) x.toNat Ä
 rwa [Int.toNat_of_nonneg h.1] at e
theorem mapM_some(f:α→Option β):∀l:List α,(l.mapM f).isSome=l.all (λx=>(f x).isSome):=by
 intro l;induction l with
 |nil=>exact rfl
 |cons x r ih=>
  have ih:=ih;rw[GG,qW,←ih];cases f x with
  |none=>rfl
  |some y=>
   cases r.mapM f with
   |none=>rfl
   |some z=>rfl
def IZ(h:a0 l)(e:∀x,0≤x∧x≤255→f x=g x):l.all f=l.all g:=by
 rw[oP,kZ,kZ];exact⟨λq x hx=>by rw[←e x (h x hx)];exact q x hx,λq x hx=>by rw[e x (h x hx)];exact q x hx⟩
def RP(h:a0 c):(lookIn Åp).isSome=vt c:=by
 unfold lookIn vt;rw[aA];by_cases e:c.length=16
 ·rw[ah (λq=>q e),CM,mapM_some,qX];rw[show c.all ((λx=>(hexValue x).isSome)∘B)=c.all kC.contains from IZ h (λx hx=>ad9 hx),e];rfl
 ·simp_all
def preOf(b:LI):LI:=jw++32::(b++[32])
def aea{b:LI}(h:a0 b):a0 (preOf b):=λx hx=>by
 unfold preOf at hx;rcases gK.mp hx with q|q
 ·exact Ee (l:=jw) Ø x q
 ·rcases bf.mp q with q|q
  ·subst q;decide
  ·rcases gK.mp q with q|q
   ·exact h x q
   ·have:x=32:=by simpa using q
    subst this;decide
def aeb(hw:a0 w)(hb:a0 b):
  ((ascii "seen"++32::(b.map B++[32])).isPrefixOf Ħ &&(lookIn ((w.map B).drop (6+(b.map B).length))).isSome)=true↔ ∃c,w=jw++32::(b++32::c)∧vt c=true:=by
 have e0:ascii "seen"++32::(b.map B++[32])=(preOf b).map B:=by
  unfold preOf;rw[bV,aY,bV];rfl
 have el:(preOf b).length=6+b.length:=by
  unfold preOf;rw[mw,cZ,mw];show 4+(b.length+1+1)=_;omega
 rw[e0,jq,List.isPrefixOf_iff_prefix,aA,←OE];constructor
 ·rintro⟨⟨t,ht⟩,hl⟩;have hd:a0 (w.drop (6+b.length)):=λx hx=>hw x (Xz hx);rw[RP hd] at hl;refine⟨w.drop (6+b.length),?_,hl⟩;have h1:(w.take (6+b.length)).map B=(preOf b).map B:=by
   have:=cz (List.take (6+b.length)) ht;rw[←List.map_take] at this;grind
  have h2:=vq (λx hx=>hw x (GH hx)) (aea hb) h1;have h3:=OF (6+b.length) w;rw[h2] at h3;refine h3.symm.trans ?_;unfold preOf;simp
 ·rintro⟨c,rfl,hc⟩;have e1:jw++32::(b++32::c)=preOf b++c:=by
   unfold preOf;simp
  rw[e1] at hw⊢;have Ja:=λx hx=>hw x (tj _ hx);have ed:(preOf b++c).drop (6+b.length)=c:=by
   simp_all
  rw[ed,RP Ja];simp_all
def dy(s:Nat):LI:=uf.getD s []
def RQ:∀s∈[0,1,2],sideWord s=(dy s).map B∧a0 (dy s)∧uf.contains (dy s)=true:=by
 intro s hs;have:s=0∨s=1∨s=2:=by simpa using hs
 rcases this with rfl|rfl|rfl <;> exact⟨by decide,Ee Ø,by decide⟩
def pS(l:Bytes)(s:Nat):Bool:=(ascii "seen"++32::(sideWord s++[32])).isPrefixOf l&&(lookIn (l.drop (6+(sideWord s).length))).isSome
def RR(hw:a0 w)(hs:s∈[0,1,2]):pS Ħ s=true↔ ∃c,w=jw++32::(dy s++32::c)∧vt c=true:=by
 obtain⟨e,h8,_⟩:=RQ s hs;unfold pS;rw[e];exact aeb hw h8
def RS{w:LI}(hw:a0 w){l:dc}(hl:∀x∈l,a0 x):w.map B∈l.map ç↔w∈l:=by
 rw[cb];constructor
 ·rintro⟨x,hx,e⟩;rw[←vq (hl x hx) hw e];exact hx
 ·grind
def fH(l:Bytes):Option (Bool×Bool):=[(false,false),(true,false),(false,true),(true,true)].find? λ(x:Bool×Bool)=>(Glimpse.lines ⟨x.1,x.2,[]⟩).head?==some l
def fF(l:Bytes):Option Nat:=[0,1,2,3].find? λ(s:Nat)=>shapeSeen s==l
def RT(l:dc)(h:l.all (λw=>w.all (λx=>decide (0≤x)&&decide (x≤255)))=true):∀x∈l,a0 x:=λx hx=>Ee (kZ.mp h x hx)
def aec{w:LI}(hw:a0 w):(fH Ħ).isSome=ik.contains w:=by
 have e:ik.map ç=[(false,false),(true,false),(false,true),(true,true)].map (λ(x:Bool×Bool)=>((Glimpse.lines ⟨x.1,x.2,[]⟩).head?).getD []):=by decide
 have e2:∀x∈[(false,false),(true,false),(false,true),(true,true)],(Glimpse.lines ⟨x.1,x.2,[]⟩).head?=some (((Glimpse.lines ⟨x.1,x.2,[]⟩).head?).getD []):=by decide
 rw[oP];unfold fH;rw[List.find?_isSome];rw[show(ik.contains w=true↔w∈ik) from by simp,←RS hw (RT ik Ø),e,cb];constructor
 ·rintro⟨x,hx,h⟩;refine⟨x,hx,?_⟩;rw[eq_of_beq h];rfl
 ·rintro⟨x,hx,h⟩;refine⟨x,hx,?_⟩;rw[e2 x hx,h];exact XA _
def aed{w:LI}(hw:a0 w):(fF Ħ).isSome=il.contains w:=by
 have e:il.map ç=[0,1,2,3].map shapeSeen:=by decide
 rw[oP];unfold fF;rw[List.find?_isSome];rw[show(il.contains w=true↔w∈il) from by simp,←RS hw (RT il Ø),e,cb];simp
def aee(l:Bytes):plateLine l=match [0,1,2].find? (pS l) with
  |some s=>(lookIn (l.drop (6+(sideWord s).length))).map λ(x:Nat)=>.seen s x
  |none=>match fH l with
   |some x=>some (.hoist x.1 x.2)
   |none=>match fF l with
    |some s=>some (.flag s)
    |none=>if l.length=4 then (l.mapM cellIn).map .cells else none:=rfl
def Jb{p:LI}(h:a0 p):PlateNeutral.text? p=some ϓ:=by
 unfold PlateNeutral.text?;rw[af ?_]
 ·rfl
 ·unfold NeutralIO.bytes;rw[kZ];intro x hx;have:=h x hx;simp_all
end JM
end
section
namespace HD
open PySem PySem.Spec PyProof.Rows L2
abbrev Jc:Stmt:=top 6
abbrev Jd:Stmt:=top 7
abbrev Je:Stmt:=top 15
abbrev Jf:Stmt:=top 16
abbrev Jg:Stmt:=top 17
abbrev Jh:Stmt:=top 18
abbrev Ji:Stmt:=top 19
abbrev Jj:Stmt:=top 20
abbrev Jk:Stmt:=top 21
abbrev Jl:Stmt:=top 22
abbrev aef:Stmt:=inClass (top 33) 0
abbrev aeg:Stmt:=inClass (top 34) 0
abbrev Jm:Stmt:=top 35
abbrev Jn:Stmt:=top 36
abbrev Jo:Stmt:=top 37
abbrev Jp:Stmt:=top 38
abbrev Jq:Stmt:=top 39
abbrev Jr:Stmt:=top 41
abbrev Js:Stmt:=top 42
abbrev Jt:Stmt:=top 43
abbrev Ju:Stmt:=inClass (top 60) 0
abbrev aeh:Stmt:=inClass (top 61) 0
abbrev aei:Stmt:=inClass (top 62) 0
abbrev aej:Stmt:=inClass (top 63) 0
abbrev Jv:Stmt:=top 64
abbrev Jw:Stmt:=top 65
abbrev Jx:Stmt:=top 66
abbrev Jy:Stmt:=top 67
abbrev Jz:Stmt:=top 68
abbrev JA:Stmt:=top 69
abbrev JB:Stmt:=top 70
abbrev JC:Stmt:=top 71
abbrev JD:Stmt:=top 72
abbrev JE:Stmt:=top 74
abbrev aek:Stmt:=inClass (top 75) 0
abbrev JF:Stmt:=top 76
abbrev JG:Stmt:=top 77
abbrev JH:Stmt:=top 78
abbrev JI:Stmt:=top 79
abbrev JJ:Stmt:=top 80
abbrev JK:Stmt:=top 81
abbrev JL:Stmt:=top 82
abbrev ael:Stmt:=inClass (top 84) 0
abbrev JN:Stmt:=top 85
abbrev JO:Stmt:=top 86
abbrev JP:Stmt:=top 87
abbrev JQ:Stmt:=top 88
abbrev JR:Stmt:=top 89
abbrev JS:Stmt:=top 90
abbrev JT:Stmt:=top 91
abbrev JU:Stmt:=top 92
abbrev JV:Stmt:=top 93
abbrev JW:Stmt:=top 94
abbrev JX:Stmt:=top 95
abbrev aem:Stmt:=inClass (top 103) 0
abbrev aen:Stmt:=inClass (top 104) 0
abbrev JY:Stmt:=top 105
abbrev JZ:Stmt:=top 106
abbrev J0:Stmt:=top 107
abbrev J1:Stmt:=top 108
abbrev J2:Stmt:=top 109
abbrev J3:Stmt:=top 110
abbrev J4:Stmt:=top 112
abbrev aeo:Stmt:=inClass (top 116) 0
abbrev J5:Stmt:=top 117
abbrev J6:Stmt:=top 118
abbrev J7:Stmt:=top 119
abbrev J8:Stmt:=top 120
abbrev J9:Stmt:=top 121
abbrev aep:Stmt:=inClass (top 123) 0
abbrev pA:Stmt:=top 124
abbrev Ka:Stmt:=top 125
abbrev Kb:Stmt:=top 126
abbrev aeq:Str:="are_in_order_lockers"
end HD
end
section
namespace HD
open PySem PySem.Spec PyProof.Rows L2
open PySem.W (Codec)
def n9(H H':Hp)(p:Addr)(o:HO):Prop:=ai H H'∧H p=none∧H' p=some o
def aK{H:Hp}{p:Addr}{o:HO}(h:H p=none):ai H (upd H p o):=λb u e=>by rw[au (eN e h)];exact e
def fh{H H1:Hp}{p:Addr}{o:HO}(s:ai H H1)(h:H p=none):ai H (upd H1 p o):=λb u e=>by rw[au (eN e h)];exact s b u e
def codes(x:Str):LI:=x.cps.toList.map λn=>((n:Nat):Int)
abbrev iv(l:LI):aq:=l.map V.int
def RU(l:LI)(z:Int):iv (l++[z])=iv l++[.int z]:=by
 simp
def eJ{A B:Hp→Prop}(h:A H):AK σ H (λb H3=>if b=true then A H3 else B H3):=by
 unfold AK;simp_all
def take_snoc{α:Type}{l:List α}{i:Nat}{x:α}(h:l[i]? =some x):l.take (i+1)=l.take i++[x]:=by
 rw[List.take_succ,h];rfl
def gQ{n:Nat}(h:n≤1000000):n<sizeLine:=oQ h (by rw[wc];decide)
inductive Bh(vs:aq)(H:Hp)(Q:VK)(E':XK):Prop
 |mk (x:Str) (_:vs=[.str x]) (_:x.cps.size≤100000) (_:∀H' p,ϡ (.lst (iv Ş))→Q Ģ H')
section
variable{P:Pg}{w:Wd}{K:FR}{mg:MG}{base:Heap}
def Kc:bC ["written","sign"] ["written"] (a7 Je):=ì
def aer{f:Addr}{fd:FD}(F:br K "spelled" "spelled" Je f fd)(aes:mg "ord"=none):Ê aE 1 f fd ["written"] Bh:=by
 refine F.ok Kc À;obtain⟨x,rfl,hx,k⟩:=h;refine⟨_,aD (aZ (eB (own:=[("sign",1)]) rfl Kc.nd (abC Ù) É (λ_ _ _ _ _=>dv 1 Kc.nd) Ó
  (λ_ _ _ _ _=>c6 Zv Ò aes boot_ord Œ))),?_⟩
 refine⟨_,rfl,x,rfl,λD hD=>acu (λi H'=>ai H H'∧H' D=some (.lst (iv ((codes x).take i)))) ⟨aK hD,ao⟩ (λi c H' hc ⟨s1,hd⟩=>⟨rfl,eJ ?_⟩) (λH' ⟨s1,hd⟩=>?_)⟩
 ·have hl:=(z6.mp hc).1;have t7:Ş[i]? =some (c:Int):=by
   unfold codes;simp_all
  refine⟨_,rfl,_,rfl,rfl,_,hd,?_,fh s1 hD,?_⟩
  ·rw[aA,mv];exact oQ (Nat.min_le_left _ _) (gQ Ä)
  ·rw[ao,take_snoc t7,RU];rfl
 ·refine k H' D ⟨s1,hD,?_⟩;rw[hd];have:(codes x).length=x.cps.size:=by unfold codes;rw[aA,we]
  grind
abbrev d9(H:Hp)(qs:LA)(L:dc):Prop:=Paired (λq l=>H q=some ņ) qs L
inductive vw(K:FR)(vs:aq)(H:Hp)(Q:VK)(E':XK):Prop
 |mk (a:Addr) (m:Int) (ns:LI) (_:vs=[.ref a,.int m]) (_:ß a (iv ns)) (_:ns.length≤100000) (_:∀H' p qs,ϡ Č→d9 H' qs (JM.aI m ns)→qs.Nodup→p∉qs→(∀q∈qs,H q=none)→Q Ģ H')
def d9.same(h:d9 H qs L)(s:ai H H'):d9 H' qs L:=Paired.lG h λq l e=>s _ _ e
def d9.len(h:d9 H qs L):qs.length=L.length:=Paired.length h
theorem d9.upd(h:d9 H qs L)(n:p∉qs):d9 (upd H p o) qs L:=by
 induction h with
 |nil=>exact .nil
 |cons r t ih=>exact .cons (by rw[au (λz=>n (by rw[z];exact gu))];exact r) (ih λz=>n (aN _ z))
theorem d9.mem(h:d9 H qs L):∀q∈qs,∃l∈L,H q=some ņ:=by
 induction h with
 |nil=>intro q h;cases h
 |cons r t ih=>
  intro q h;rcases bf.mp h with rfl|h
  ·exact⟨_,gu,r⟩
  ·obtain⟨l,hl,e⟩:=ih q h;exact⟨l,aN _ hl,e⟩
theorem d9.snoc(e:H q=some ņ)(h:d9 H qs L):d9 H (qs++[q]) (L++[l]):=by
 induction h with
 |nil=>exact .cons e .nil
 |cons r t ih=>exact .cons r ih
theorem d9.last(h:d9 H qs L):L≠[]→∃gB q,qs=gB++[q]∧d9 H gB L.dropLast∧H q=some (.lst (iv (L.getLastD []))):=by
 induction h with
 |nil=>exact λh=>absurd rfl h
 |cons r t ih=>
  intro _;cases t with
  |nil=>exact⟨[],_,rfl,.nil,r⟩
  |cons r2 t=>
   obtain⟨gB,q',e,t',r'⟩:=ih Â;exact⟨_::gB,q',by rw[e];rfl,.cons r t',r'⟩
def Kd:bC ["text","mark","parts","byte"] ["text","mark"] (a7 Jf):=ì
theorem Ef(m:Int):∀l:LI,(JM.aI m l).length≤l.length+1:=by
 intro l;induction l with
 |nil=>
  simp[JM.aI]
 |cons x r ih=>
  have ih:=ih;unfold JM.aI;split
  ·simp only[cZ];omega
  ·split
   ·simp
   ·rename_i w l e;rw[e] at ih;simp only[cZ] at ih⊢;omega
theorem xk(m:Int)(l:LI):∀(w:LI),w∈JM.aI m l→w.length≤l.length:=by
 induction l with
 |nil=>
  intro w h;simp[JM.aI] at h;simp[h]
 |cons x r ih=>
  intro w h;have ih:=ih;unfold JM.aI at h;split at h
  ·rcases bf.mp h with rfl|h
   ·simp
   ·have:=ih w h;simp only[cZ];omega
  ·cases e:JM.aI m r with
   |nil=>exact absurd e (JM.lp m r)
   |cons w' l=>
    rw[e] at h ih;rcases bf.mp h with rfl|h
    ·have:=ih w' gu;simp only[cZ];omega
    ·have:=ih w (aN _ h);simp only[cZ];omega
inductive CtI(a p:Addr)(m:Int)(ns:LI)(H:Hp)(i:Nat)(σ:L2.St)(H':Hp):Prop
 |mk (v:Option V) (qs:LA) (_:σ=[some Ě,some (.int m),some Ģ,v]) (_:ai H H') (_:H' p=some Č) (_:d9 H' qs (JM.aI m Çj)) (_:qs.Nodup) (_:p∉qs) (_:∀q∈qs,H q=none)
def aeu{f:Addr}{fd:FD}(F:br K "cut" "cut" Jf f fd):Ê aE 1 f fd ["text","mark"] (vw K):=by
 refine F.ok Kd À;obtain⟨a,m,ns,rfl,hS,hl,k⟩:=h;refine⟨_,aB (cq 2 Kd.nd (eG Äh))
  (aB (Š Åa (dv 3 Kd.nd)
   (aD (dq (cI hJ õ á (bT _))
    (aD (rE (Ý è Äh)))
    (aD (rE (Ý (cA cQ è Ák Õ) Ĳ))))))
  Æq),?_⟩
 refine⟨dQ _,λq0 Bi=>⟨(by show 1≤sizeLine;decide),λp hp=>?_⟩⟩;have p7:=(aK Bi).free hp;have pq:p≠q0:=λz=>by rw[z,ao] at hp;cases hp
 refine⟨_,rfl,a,rfl,⟨_,(fh (aK Bi) p7).seq hS⟩,wD (K:=K) (a:=a) (xs:=iv ns) (CtI a p m ns H)
  ⟨none,[q0],rfl,fh (aK Bi) p7,ao,.cons (by rw[au (dJ pq)];exact ao) .nil,by simp,by simpa using pq,by simpa using Bi⟩ (λi σ H' _ h=>(by obtain⟨_,_,_,s1⟩:=h;exact s1.seq hS)) ?_ ?_⟩
 ·rintro i y σ H' hi ⟨v,qs,rfl,s1,h1,h2,h3,h4,h5⟩;obtain⟨z,hz,rfl⟩:∃z,ns[i]? =some z∧y=V.int z:=by
   rw[bX] at hi;cases e:ns[i]? with
   |none=>rw[e] at hi;cases hi
   |some z=>rw[e] at hi;exact⟨z,rfl,(aO hi).symm⟩
  have dY:=(bH.mp hz).1;have et:=take_snoc hz;have ec:=JM.ad5 m z Çj;have lq:qs.length≤i+1:=by
   rw[h2.len];refine gW (Ef m _) ?_;rw[mv];omega
  refine⟨_,rfl,_,rfl,rfl,_,rfl,a9 Í Í⟩
  ·simp at hc;refine⟨_,rfl,.inl ⟨rfl,_,aa.of h1⟩,dQ _,λq hq=>⟨p,_,_,rfl,rfl,(by rw[au (eN h1 hq)];exact h1),(by rw[aA];exact gQ Ä),?_⟩⟩;have Eg:=s1.free hq;have RV:q∉qs:=λhm=>by
    obtain⟨l,_,r⟩:=d9.mem h2 q hm;rw[r] at hq;cases hq
   refine⟨_,qs++[q],rfl,fh (fh s1 Eg) p7,?_,?_,?_,?_,?_⟩
   ·rw[ao,bV];rfl
   ·rw[et,ec];unfold JM.vp;rw[af hc];exact d9.upd (d9.snoc (l:=[]) ao (d9.upd h2 RV)) (λz=>by
     rcases gK.mp z with z|z
     ·exact h4 z
     ·exact eN h1 hq (by simpa using z))
   ·exact Ij h3 RV
   ·intro z;rcases gK.mp z with z|z
    ·exact h4 z
    ·exact eN h1 hq (by simpa using z)
   ·intro q' z;rcases gK.mp z with z|z
    ·exact h5 q' z
    ·rw[show q'=q by simpa using z];exact Eg
  ·simp at hc;obtain⟨gB,q,rfl,t',r'⟩:=d9.last h2 (JM.lp m _);have nqs:=λz=>by
    have:=(OC.mp h3).2.2 q z q Â;exact this rfl
   refine⟨_,rfl,_,rfl,p,_,_,V.ref q,rfl,rfl,aa.of h1,?_,.inl ⟨rfl,_,aa.of r'⟩,_,rfl,q,_,_,rfl,rfl,r',?_,?_⟩
   ·rw[bV];exact u6 _ _
   ·rw[aA];have:((JM.aI m Çj).getLastD []).length≤(ns.take i).length:=by
     refine xk m _ _ ?_;rw[List.getLastD_eq_getLast?];cases e:(JM.aI m Çj).getLast? with
     |none=>exact absurd (aoT.mp e) (JM.lp m _)
     |some l=>exact CW e
    rw[mv] at this;exact gQ Ä
   ·have np:p≠q:=λz=>h4 (by rw[z];simp);refine⟨_,gB++[q],rfl,fh s1 (h5 q Â),by rw[au np];exact h1,?_,h3,h4,h5⟩;rw[et,ec];unfold JM.vp;rw[ah hc];refine d9.snoc ?_ (d9.upd t' nqs);rw[ao];exact cz (λz=>some (HO.lst z)) (RU _ _).symm
 ·rintro σ H' ⟨v,qs,rfl,s1,h1,h2,h3,h4,h5⟩;rw[aA,mx] at h2;exact⟨_,rfl,k H' p qs ⟨s1,p7,h1⟩ h2 h3 h4 h5⟩
end
def oI:Option Nat→V
 |some i=>.int (i:Nat)
 |none=>.aJ
def bw(oO:dc)(part:LI):Option Nat:=oO.findIdx? λw=>decide (w=part)
inductive Eh(K:FR)(vs:aq)(H:Hp)(Q:VK)(E':XK):Prop
 |mk (aw ap:Addr) (oO:LS) (part:LI) (_:vs=[.ref aw,.ref ap]) (_:ť aw (oO.map V.str)) (_:(∀x∈oO,x.cps.size≤100000)) (_:ß ap Âs) (_:∀H',ai H H'→Q (oI (bw (oO.map codes) part)) H')
def find_none{α:Type}{p:α→Bool}{l:List α}(h:∀x∈l,p x=false):l.findIdx? p=none:=by
 simp_all
theorem aew{α:Type}{p:α→Bool}{l:List α}:∀{i:Nat}{x:α},l[i]? =some x→(∀y∈l.take i,p y=false)→p x=true→l.findIdx? p=some i:=by
 induction l with
 |nil=>intro i x h _ _;simp at h
 |cons a l ih=>
  intro i x h hn hp;rw[XD];cases i with
  |zero=>
   have e:=aO h;subst e;rw[hp];rfl
  |succ i=>
   rw[hn a Â,ih (i:=i) (x:=x) h (λy hy=>hn y (by rw[OG];exact aN _ hy)) hp];rfl
def ai.tup{K:FR}{H H':Hp}{a:Addr}{xs:aq}(e:ai H H')(h:ť a xs):bu K H' a xs:=by
 rcases h with (h|⟨o,h⟩)|h
 ·exact .inl (.inl (e _ _ h))
 ·exact .inl (.inr ⟨o,e _ _ h⟩)
 ·exact .inr h
section
variable{P:Pg}{w:Wd}{K:FR}{mg:MG}{base:Heap}
def RW:bC ["words","part","place","word"] ["words","part"] (a7 Jh):=ì
def aex{f fS:Addr}{fd xl:FD}(F:br K "place_among" "place_among" Jh f fd)(tE:mg "enumerate"=none)(GS:Ê aE 1 fS xl ["written"] Bh)(mS:mg "spelled"=some (.ref fS))(kS:PySem.W.keepIn K (.ref fS)=true)(bS:Binds K xl ["written"] []):
  a8 P w K mg base aE 2 f fd ["words","part"] (Eh K):=by
 refine F.ok RW À;obtain⟨aw,ap,oO,part,rfl,hW,hw,hP,k⟩:=h;refine⟨_,aB (Š (Q3 Ò tE ñ) (iB 2 3 RW.nd)
   (aD (dq (cI (acE hr.units) (lN GS hr rfl mS kS bS .nil rO Ĳ) á (bT _)) Æq d7)))
  Ź,?_⟩
 refine⟨_,rfl,aw,_,rfl,hW,Q4 (K:=K) (a:=aw) (xs:=oO.map V.str) (λi σ H'=>∃v2 v3:Option V,σ=[some (.ref aw),some Èk,v2,v3]∧ai H H'∧∀y∈(oO.map codes).take i,decide (y=part)=false)
  ⟨none,none,rfl,ai.refl H,by simp⟩ (λi σ H' _ ⟨_,_,_,s1,_⟩=>ai.tup s1 hW) ?_ ?_⟩
 ·rintro i y T σ H' hi ⟨v2,v3,rfl,s1,hn⟩ hT;obtain⟨x,hx,rfl⟩:∃x,oO[i]? =some x∧y=V.str x:=by
   grind
  have s2:=fh (o:=.tup [.int (i:Nat),.str x]) s1 (s1.free hT);refine⟨T,_,rfl,bu.of ao,rfl,_,_,rfl,_,_,rfl,rfl,_,rfl,x,rfl,hw x (bY hx),λH2 p hN=>?_⟩;have s3:=s2.trans hN.1;have t7:(oO.map codes)[i]? =some Ş:=by rw[bX,hx];rfl
  refine⟨_,rfl,p,ap,codes x,part,rfl,rfl,aa.of hN.2.2,s3.seq hP,_,rfl,a9 Í Í⟩
  ·refine Ď;have e:=aew t7 hn hc;have q:=k H2 s3;unfold bw at q;rw[e] at q;exact q
  ·refine⟨_,_,rfl,s3,λy hy=>?_⟩;rw[take_snoc t7] at hy;grind
 ·rintro σ H' ⟨v2,v3,rfl,s1,hn⟩;have q:=k H' s1;rw[aA] at hn;unfold bw at q;rw[find_none (λy hy=>hn y (by rw[←aA (f:=codes),mx];exact hy))] at q;exact q
def jx(signs part:LI):Option LI:=if part.all (λb=>signs.contains b)=true then some (part.map λb=>((signs.idxOf b:Nat):Int)) else none
inductive Ei(K:FR)(vs:aq)(H:Hp)(Q:VK)(E':XK):Prop
 |mk (x:Str) (ap:Addr) (part:LI) (_:vs=[.str x,.ref ap]) (_:x.cps.size≤100000) (_:ß ap Âs) (_:part.length≤100000) (_:(jx Ş part=none→∀H',ai H H'→Q .aJ H')) (_:∀l,jx Ş part=some l→∀H' p,ϡ ņ→Q Ģ H')
theorem Ke(b:Int):∀l:LI,u7 (.int b) (iv l)=l.contains b:=by
 intro l;induction l with
 |nil=>exact rfl
 |cons x l ih=>
  have ih:=ih;unfold u7 iv at ih⊢;rw[aY,tp,ih,z4];congr 1;show(x==b)=(b==x);by_cases h:x=b
  ·subst h;rfl
  ·have h2:¬b=x:=λz=>h z.symm;rw[wg.mpr h,wg.mpr h2]
theorem Bj:∀l:LI,(iv l).all lg=true:=by
 intro l;induction l with
 |nil=>exact rfl
 |cons x l ih=>
  show(lg (.int x)&&(iv l).all lg)=true;rw[ih];rfl
theorem rS{l:LI}{i:Nat}{y:V}(h:(iv l)[i]? =some y):∃z,l[i]? =some z∧y=V.int z:=by
 unfold iv at h;rw[bX] at h;cases e:l[i]? with
 |none=>rw[e] at h;cases h
 |some z=>rw[e] at h;exact⟨z,rfl,(aO h).symm⟩
def aey(l:List Bool)(b:Bool):(l++[b]).map V.bl=l.map V.bl++[.bl b]:=by
 simp
def RX{l:LI}{b:Int}(h:l.contains b=true):∃j z,l.idxOf b=j∧(iv l)[j]? =some z∧o5 z (.int b)=true∧∀(m:Nat)(z':V),m<j→(iv l)[m]? =some z'→o5 z' (.int b)=false:=by
 have hm:b∈l:=by simpa using h
 have bJ:l.idxOf b<l.length:=List.idxOf_lt_length_of_mem hm;refine⟨_,.int b,rfl,?_,?_,λm z' hm' hz=>?_⟩
 ·unfold iv;rw[bX,dm bJ,List.getElem_idxOf];rfl
 ·show(b==b)=true;exact XA b
 ·obtain⟨z,hz2,rfl⟩:=rS hz;show(z==b)=false;have:=List.not_of_lt_findIdx (p:=(· ==b)) (xs:=l) (i:=m) hm';obtain⟨hl,e⟩:=bH.mp hz2;rw[e] at this;simpa using this
def yV:bC ["signs","part","known","byte"] ["signs","part"] (a7 Ji):=ì
def aeB{f fS:Addr}{fd xl:FD}(F:br K "places_in" "places_in" Ji f fd)(tA:mg "all"=none)(GS:Ê aE 1 fS xl ["written"] Bh)(mS:mg "spelled"=some (.ref fS))(kS:PySem.W.keepIn K (.ref fS)=true)(bS:Binds K xl ["written"] []):
  a8 P w K mg base aE 2 f fd ["signs","part"] (Ei K):=by
 refine F.ok yV À;obtain⟨x,ap,part,rfl,hx,hP,hl,k0,k1⟩:=h;refine⟨_,aB (cq 2 yV.nd (lN GS hr rfl mS kS bS .nil rO ñ))
  (aB (dq (oW (jr (c6 Äm Ò tA ye (ae (eB (own:=[("byte",3)]) (te:=bQ (Ds K false) Ŗ ŗ) rfl yV.nd Æi É (λ_ _ _ _ _=>dv 3 yV.nd) Ó
     (λ_ _ _ _ _=>jt HI õ è (by with_unfolding_all rfl))) ag)))) Ź d7)
  (aD (aZ (eB (own:=[("byte",3)]) (te:=PY K "list" (P6 K) ŗ Ân) rfl yV.nd Æi É (λ_ _ _ _ _=>dv 3 yV.nd) Ó
     (λ_ _ _ _ _=>rK PySem.F.plainAttrs_list PySem.F.slot_list_index PySem.F.type_list_index P8 è Ĳ))))),?_⟩
 refine⟨_,rfl,x,rfl,hx,λH1 pk hN=>?_⟩;have s1:=hN.1;refine⟨_,rfl,ap,rfl,⟨_,s1.seq hP⟩,λD hD=>gy (K:=K) (a:=ap) (xs:=iv part) (λi H'=>ai H1 H'∧H' D=some (.lst (((part.take i).map λb=>(codes x).contains b).map V.bl))) ⟨aK hD,ao⟩
  (λi H' _ ⟨s2,_⟩=>(s1.trans s2).seq hP) (λi y H' hi ⟨s2,hd⟩=>?_) (λH' ⟨s2,hd⟩=>?_)⟩
 ·obtain⟨z,hz,rfl⟩:=rS hi;have dY:=(bH.mp hz).1;refine⟨rfl,eJ ⟨_,rfl,_,rfl,pk,_,rfl,.inl (aa.of (s2 _ _ hN.2.2)),rfl,Bj _,_,hd,?_,fh s2 hD,?_⟩⟩
  ·rw[aA,aA,mv];exact gQ Ä
  ·rw[ao,take_snoc hz,bV];show some (HO.lst (_++[V.bl (u7 (.int z) (iv Ş))]))=some (HO.lst ((_++[_]).map V.bl));rw[aey,Ke]
 ·rw[show(iv part).length=part.length by simp,mx] at hd;refine⟨D,_,rfl,aa.of hd,_,rfl,?_⟩;have ea:(part.map λb=>(codes x).contains b).all id=part.all λb=>(codes x).contains b:=by
   simp
  rw[ea];refine a9 Í Í
  ·simp at hc;refine k0 ?_ H' Àv;unfold jx;simp_all
  ·have hc:part.all (λb=>(codes x).contains b)=true:=by simpa using hc
   have e1:jx Ş part=some (part.map λb=>(((codes x).idxOf b:Nat):Int)):=by
    unfold jx;simp_all
   refine⟨_,rfl,ap,rfl,⟨_,(s1.trans s2).seq hP⟩,λD2 cE=>gy (K:=K) (a:=ap) (xs:=iv part) (λi nZ=>ai H' nZ∧nZ D2=some (.lst (iv ((part.take i).map λb=>(((codes x).idxOf b:Nat):Int))))) ⟨aK cE,ao⟩
    (λi nZ _ ⟨s3,_⟩=>((s1.trans s2).trans s3).seq hP) (λi y nZ hi ⟨s3,pB⟩=>?_) (λnZ ⟨s3,pB⟩=>?_)⟩
   ·obtain⟨z,hz,rfl⟩:=rS hi;have dY:=(bH.mp hz).1;obtain⟨j,zz,ej,hj,Kf,Bk⟩:=RX (kZ.mp hc z (bY hz));have hk:=(ī) _ _ hN.2.2;refine⟨rfl,eJ ⟨_,rfl,.inl ⟨rfl,_,aa.of hk⟩,_,rfl,pk,_,_,j,zz,rfl,rfl,aa.of hk,rfl,Bj _,hj,Kf,Bk,_,pB,?_,fh s3 cE,?_⟩⟩
    ·unfold iv;rw[aA,aA,mv];exact gQ Ä
    ·rw[ao,take_snoc hz,bV,←ej];simp
   ·rw[show(iv part).length=part.length by simp,mx] at pB;exact k1 _ e1 nZ D2 ⟨(s1.trans s2).trans s3,(s1.trans s2).free cE,pB⟩
def ib(part:LI):Option LI:=if part.length=16 then jx JM.kC part else none
inductive Kg(K:FR)(vs:aq)(H:Hp)(Q:VK)(E':XK):Prop
 |mk (ap:Addr) (part:LI) (_:vs=[.ref ap]) (_:ß ap Âs) (_:part.length≤100000) (_:(ib part=none→∀H',ai H H'→Q .aJ H')) (_:∀l,ib part=some l→∀H' p,ϡ ņ→Q Ģ H')
def aeC:bC ["part"] ["part"] (a7 Jj):=ì
def eX(l:LI):(iv l).length=l.length:=by unfold iv;rw[aA]
def aeD(F:br K "read_colours" "read_colours" Jj f fd)(tL:mg "len"=none)(mC:mg "COLOUR_SIGNS"=some uC)(rC:RelV (.str "0123456789abcdef") uC)(GP:Ê aE 2 fP Kh ["signs","part"] (Ei K)) (mP:mg "places_in"=some (.ref fP)) (kP:PySem.W.keepIn K (.ref fP)=true) (bP:Binds K Kh ["signs","part"] []):
  a8 P w K mg base aE 3 f fd ["part"] (Kg K):=by
 refine F.ok aeC À;obtain⟨ap,part,rfl,hP,hl,k0,k1⟩:=h;refine⟨_,aB (dq (cI u0 Ă bh (bT _)) Ź d7)
  (aD (aZ (lN GP hr rfl mP kP bP .nil rO (ae (uX Ò mC rC) ñ)))),?_⟩
 refine⟨_,rfl,ap,_,rfl,.inl hP,rfl,_,rfl,a9 Í Í⟩
 ·have hc:¬part.length=16:=by
   grind
  refine k0 ?_ H Ÿ;unfold ib;simp_all
 ·have hc:part.length=16:=by
   grind
  have e:ib part=jx (codes "0123456789abcdef") part:=by
   unfold ib;rw[af hc];rfl
  exact⟨_,rfl,_,ap,part,rfl,by decide,hP,hl,λz H' s1=>k0 Çm H' s1,λl z H' p hN=>k1 l Çm H' p hN⟩
end
def Dn(P:Pg)(w:Wd)(K:FR)(mg:MG)(base:Heap)(CX:mT)(k:Nat)(x:Str)(ps:LS)(sp:Sp):Prop:=
 ∃f fd,Ê CX k f fd ps sp∧mg x=some ą∧PySem.W.keepIn K ą=true∧L2.Binds K fd ps []
def Cn(mg:MG)(x:Str)(v:V):Prop:=∃u,mg x=some u∧RelV v u
def Tn(K:FR)(mg:MG)(x:Str)(xs:aq):Prop:=∃a,mg x=some Ě∧∀H,ť a xs
def LstAt(H H':Hp):Option LI→V→Prop
 |none,v=>v=.aJ
 |some l,v=>∃c,v=.ref c∧H c=none∧H' c=some ņ
section
variable{X:Cx}
def bz{CX:mT}{k m:Nat}{x:Str}{ps:LS}{sp:Sp}{e:Expr}{es:List Expr}{t:TA}{p pos:Pos}{E:XK}(d:Dn X.prog X.w X.K X.mg X.base CX k x ps sp)(ha:PA X (e::es) t)(hr:dw m X.A:=by assumption)(hx:tP CX X E:=by exact rO)(hk:k≤m:=by decide)(hg:Gl X x:=by rfl)(ju:(x==("__debug__":Str))=false:=by decide)(he:starEach (e::es) X.env=(false,eval e X.env)::starEach es X.env:=by rfl)(df:(backTo pos ô).any (·.1)=false:=by rfl):PE X (.Call ž (e::es) [] pos) (gY sp [] E t):=
 let ⟨_,_,g,a,b,c⟩:=d
 lN g (hr.mono hk) hg a b c .nil hx ha ju he df
def b7{x:Str}{v:V}{pos:Pos}(c:Cn X.mg x v)(hg:Gl X x:=by rfl)(hd:(x==("__debug__":Str))=false:=by decide):PE X Ϸ (tC v):=let ⟨_,m,r⟩:=c;uX hg m r hd
end
structure eC where
 a:Addr
 dx:Addr
 l:Addr
 shape:Nat
 cells:LI
structure cg where
 a:Addr
 dx:Addr
 l:Addr
 above:Bool
 below:Bool
 flags:List eC
structure eK where
 a:Addr
 dx:Addr
 cl:Addr
 gl:Addr
 side:Nat
 classes:LI
 ak:List cg
structure Cs where
 S:Addr
 G:Addr
 P:Addr
abbrev Nd:=Addr×HO
def vx(s:eC):List (Str×V):=[("shape",.int (s.shape:Nat)),("cells",.ref s.l)]
def pC(g:cg):List (Str×V):=[("above",.bl g.above),("below",.bl g.below),("flags",.ref g.l)]
def lV(p:eK):List (Str×V):=[("side",.int (p.side:Nat)),("classes",.ref p.cl),("glimpses",.ref p.gl)]
def ic(C:Cs)(s:eC):List Nd:=[(s.a,.ins C.S s.dx (vx s)),(s.l,.lst (iv s.cells))]
def gh(C:Cs)(g:cg):List Nd:=(g.a,.ins C.G g.dx (pC g))::(g.l,.lst (g.flags.map λs=>V.ref s.a))::g.flags.flatMap (ic C)
def eE(C:Cs)(p:eK):List Nd:=(p.a,.ins C.P p.dx (lV p))::(p.cl,.lst Ō)::(p.gl,.lst (p.ak.map λg=>V.ref g.a))::p.ak.flatMap Åi
def Lies(H:Hp)(ns:List Nd):Prop:=∀x∈ns,H x.1=some x.2
def Lies.same{H H':Hp}{ns:List Nd}(h:Lies H ns)(s:ai H H'):Lies H' ns:=λx hx=>s _ _ (h x hx)
structure iC where
 above:Bool
 below:Bool
 flags:List (Nat×LI)
structure gi where
 side:Nat
 classes:LI
 ak:List iC
def eC.m(s:eC):Nat×LI:=(s.shape,s.cells)
def cg.m(g:cg):iC:=⟨g.above,g.below,g.flags.map eC.m⟩
def eK.m(p:eK):gi:=⟨p.side,p.classes,p.ak.map cg.m⟩
section
variable{C:Cs}{H:Hp}{p:eK}
def Lies.pl(h:Lies H Ác):H p.a=some (.ins C.P p.dx (lV p)):=h (p.a,_) (by unfold eE;simp)
def Lies.cl(h:Lies H Ác):H p.cl=some (.lst Ō):=h (p.cl,_) (by unfold eE;simp)
def Lies.gl(h:Lies H Ác):H p.gl=some (.lst (p.ak.map λg=>V.ref g.a)):=h (p.gl,_) (by unfold eE;simp)
def Lies.sub(h:Lies H Ác){g:cg}(hg:g∈p.ak):Lies H Æh:=λx hx=>h x (by
 unfold eE;exact aN _ (aN _ (aN _ (j7.mpr ⟨g,hg,hx⟩))))
def Lies.ga{g:cg}(h:Lies H Æh):H g.a=some (.ins C.G g.dx (pC g)):=h (g.a,_) (by unfold gh;simp)
def Lies.fl{g:cg}(h:Lies H Æh):H g.l=some (.lst (g.flags.map λs=>V.ref s.a)):=h (g.l,_) (by unfold gh;simp)
def Lies.yW{g:cg}(h:Lies H Æh){s:eC}(hs:s∈g.flags):Lies H (ic C s):=λx hx=>h x (by
 unfold gh;exact aN _ (aN _ (j7.mpr ⟨s,hs,hx⟩)))
def Lies.sa{s:eC}(h:Lies H (ic C s)):H s.a=some (.ins C.S s.dx (vx s)):=h (s.a,_) (by unfold ic;simp)
def Lies.sl{s:eC}(h:Lies H (ic C s)):H s.l=some (.lst (iv s.cells)):=h (s.l,_) (by unfold ic;simp)
end
def ip{f:Str}{v:V}{r:List (Str×V)}:((f,v)::r).lookup f=some v:=by
 rw[wj,XA]
def fO{f g:Str}{v:V}{r:List (Str×V)}(h:(f==g)=false):((g,v)::r).lookup f=r.lookup f:=by
 rw[wj,h]
def RY(p:eK):(lV p).lookup ("side":Str)=some (.int (p.side:Nat)):=ip
def Ki(p:eK):(lV p).lookup ("classes":Str)=some (.ref p.cl):=(fO È).trans ip
def m4(p:eK):(lV p).lookup ("glimpses":Str)=some (.ref p.gl):=(fO È).trans ((fO È).trans ip)
def RZ(g:cg):(pC g).lookup ("above":Str)=some (.bl g.above):=ip
def R1(g:cg):(pC g).lookup ("below":Str)=some (.bl g.below):=(fO È).trans ip
def vy(g:cg):(pC g).lookup ("flags":Str)=some (.ref g.l):=(fO È).trans ((fO È).trans ip)
def Kj(s:eC):(vx s).lookup ("shape":Str)=some (.int (s.shape:Nat)):=ip
def Ej(s:eC):(vx s).lookup ("cells":Str)=some (.ref s.l):=(fO È).trans ip
structure lW(K:FR)(C:Cs):Prop where
 cS:kh K C.S
 cG:kh K C.G
 cP:kh K C.P
 yX:gw K C.S "shape"
 Ek:gw K C.S "cells"
 R3:gw K C.G "above"
 R4:gw K C.G "below"
 vz:gw K C.G "flags"
 Kk:gw K C.P "side"
 El:gw K C.P "classes"
 m5:gw K C.P "glimpses"
theorem pE{α:Type}(l:List α):l=[]∨∃r x,l=r++[x]:=by
 cases e:l.getLast? with
 |none=>exact .inl (aoT.mp e)
 |some x=>
  right;obtain⟨r,hr⟩:=List.getLast?_eq_some_iff.mp e;exact⟨r,x,hr⟩
inductive Em(C:Addr)(ns:LS)(vs:aq)(H:Hp)(Q:VK)(E':XK):Prop
 |mk (x dx:Addr) (as:aq) (_:vs=.ref x::as) (_:as.length=ns.length) (_:H x=some Âc) (_:∀H',H' x=some (.ins C dx (ns.zip as))→(∀b o,H b=some o→b≠x→H' b=some o)→Q .aJ H')
def m6(P:Pg)(w:Wd)(K:FR)(mg:MG)(base:Heap)(x:Str)(C:Addr)(ns:LS):Prop:=
 ∃f fd,Mk K C f∧Ê aE 1 f fd ("self"::ns) (Em C ns)∧mg x=some ý∧L2.Binds K fd ("self"::ns) []
def aeE{f g:Str}{v x:V}{r:List (Str×V)}(h:¬g=f):hZ f v ((g,x)::r)=(g,x)::hZ f v r:=by
 show(if g=f then (g,v)::r else (g,x)::hZ f v r)=_;rw[ah h]
section
variable{P:Pg}{w:Wd}{K:FR}{mg:MG}{base:Heap}{C:Cs}
end
def ite_yes{c A B:Prop}[Decidable c](hc:c)(h:A):if decide c=true then A else B:=by
 rw[af (eF hc)];exact h
def ite_no{c A B:Prop}[Decidable c](hc:¬c)(h:B):if decide c=true then A else B:=by
 rw[ah (by simpa using hc)];exact h
section
variable{X:Cx}
def pF{m:Nat}{x:Str}{C:Addr}{ns:LS}{e:Expr}{es:List Expr}{t:TA}{p pos:Pos}(d:m6 X.prog X.w X.K X.mg X.base x C ns)(hr:dw m X.A)(ha:PA X (e::es) t)(hk:2≤m:=by decide)(hg:Gl X x:=by rfl)(ju:(x==("__debug__":Str))=false:=by decide)(he:starEach (e::es) X.env=(false,eval e X.env)::starEach es X.env:=by rfl)(df:(backTo pos ô).any (·.1)=false:=by rfl):PE X (.Call ž (e::es) [] pos) (Pt C (Em C ns) [] E0 t):=
 let ⟨_,_,M,g,a,c⟩:=d
 ZP M g (hr.mono hk) hg a c .nil rO ha ju he df
end
end HD
end
section
namespace HD
open PySem PySem.Spec PyProof.Rows L2
theorem aeF{f:Str}{v:V}{fs:List (Str×V)}:(∀x∈fs.map (·.1),¬x=f)→hZ f v fs=fs++[(f,v)]:=by
 induction fs with
 |nil=>exact @λ_=>rfl
 |cons hd0 r ih=>
  obtain⟨g,x⟩:=hd0;intro h;rw[aeE (h g Â),ih λy hy=>h y (aN _ hy)];rfl
def En(K:FR):Nat→LS→TS
 |_,[]=>O7
 |k,[n]=>Do K ώ (ay k) n
 |k,n::ns=>Hj (Do K ώ (ay k) n) (En K (k+1) ns)
theorem R7{K:FR}{C x dx:Addr}(c:kh K C){σ:L2.St}(h0:σ[0]? =some (some (V.ref x))){D:Ends}:∀(ns:LS)(as:aq)(done:List (Str×V))(k:Nat)(H:Hp),as.length=ns.length→(∀(i:Nat)a,as[i]? =some a→σ[k+i]? =some (some a))→H x=some (.ins C dx done)→done.length+ns.length≤1000→
  (∀n∈ns,n∉done.map (·.1))→ns.Nodup→(∀n∈ns,ϧ n)→(∀H',H' x=some (.ins C dx (done++ns.zip as))→(∀b o,H b=some o→b≠x→H' b=some o)→D.nx σ H')→En K k ns D σ H
 |[],as,done,k,H,hl,ha,hx,hs,hf,hd,hn,q=>by
  obtain rfl:as=[]:=by simpa using hl
  exact q H (by simpa using hx) λb o e _=>e
 |n::ns,a::as,done,k,H,hl,ha,hx,hs,hf,hd,hn,q=>by
  rw[cZ] at hs;obtain⟨fq,fA⟩:=j4.mp hd;have e1:hZ n a done=done++[(n,a)]:=aeF λy hy e=>hf n Â (by rw[←e];exact hy);have step:∀D':Ends,D'.nx σ (Áa (.ins C dx (done++[(n,a)])))→Do K ώ (ay k) n D' σ H:=λD' h=>by
   refine⟨a,ha 0 a rfl,_,h0,x,C,dx,done,rfl,hx,c,hn n Â,by omega,?_⟩;rw[e1];exact h
  have bG:∀H',H' x=some (.ins C dx ((done++[(n,a)])++ns.zip as))→(∀b o,Áa (.ins C dx (done++[(n,a)])) b=some o→b≠x→H' b=some o)→D.nx σ H':=λH' h1 h2=>by
   refine q H' (by rw[h1,rg];rfl) λb o e hb=>h2 b o ?_ hb;rw[au hb];exact e
  cases ns with
  |nil=>
   obtain rfl:as=[]:=by simpa using hl
   exact step D (bG _ (by rw[ao];simp) λb o e _=>e)
  |cons m ms=>
   refine step _ (R7 c h0 (m::ms) as (done++[(n,a)]) (k+1) _ (by simpa using hl) (λi b e=>?_) ao (by simp at hs⊢;omega) (λy hy hm=>?_) fA (λy hy=>hn y (aN _ hy)) bG)
   ·rw[show k+1+i=k+(i+1) by omega];exact ha (i+1) b e
   ·rw[bV] at hm;rcases gK.mp hm with hm|hm
    ·exact hf y (aN _ hy) hm
    ·obtain rfl:y=n:=by simpa using hm
     exact fq hy
def aeG{P:Pg}{w:Wd}{K:FR}{mg:MG}{base:Heap}{C:Addr}{ns:LS}{qn:Str}{st:Stmt}{f:Addr}{fd:FD}(F:br K "__init__" qn st f fd)(c:kh K C)(n:∀n∈ns,ϧ n)(S:bC ("self"::ns) ("self"::ns) Án)(hs:ns.length≤1000)(d:∀aG A outer s H E,jI (ō ("self"::ns) qn Án f aG A outer s H E).rD Äz (En K 1 ns)):Ê aE 1 f fd ("self"::ns) (Em C ns):=by
 refine F.ok S (len:=λvs H Q E h=>(by obtain⟨x,dx,as,rfl,hl,_⟩:=h;exact cz (· +1) hl)) À;obtain⟨x,dx,as,rfl,hl,h1,k⟩:=h;refine⟨_,d aG A outer s H E,R7 c (by unfold L2.start;rfl) ns as [] 1 H hl (λi a e=>?_) h1 (by simpa using hs) Â (j4.mp S.nd).2 n λH' h2 h3=>k H' h2 h3⟩;unfold L2.start;have hi:=(bH.mp e).1;rw[Gu (by simp;omega),bX,show 1+i=i+1 by omega,aoJ,e];rfl
end HD
end
section
namespace HD
open PySem PySem.Spec PyProof.Rows L2
open PySem.W (Codec)
def jM(line:LI):Option LI:=if line.length=4 then jx JM.pj line else none
inductive R8(K:FR)(vs:aq)(H:Hp)(Q:VK)(E':XK):Prop
 |mk (ap:Addr) (line:LI) (_:vs=[.ref ap]) (_:ß ap Åo) (_:line.length≤100000) (_:∀H' v,ai H H'→LstAt H H' (jM line) v→Q v H')
section
variable{P:Pg}{w:Wd}{K:FR}{mg:MG}{base:Heap}
def aeH:bC ["line"] ["line"] (a7 Jy):=cu
def aeI(F:br K "read_row" "read_row" Jy f fd)(tL:mg "len"=none)(cR:Cn mg "ROW" (.int 4))(cS:Cn mg "SEEN_SIGNS" (.str "0123456789abcdef?"))(dP:Å 2 "places_in" ["signs","part"] (Ei K)):Ê aE 3 f fd ["line"] (R8 K):=by
 refine F.ok aeH À;obtain⟨ap,part,rfl,hP,hl,k⟩:=h;refine⟨_,aB (dq (cI u0 Ă (b7 cR) (bT _)) Ź d7)
  (aD (aZ (bz (hr:=hr) dP (ae Æo ñ)))),?_⟩
 refine⟨_,rfl,ap,_,rfl,.inl hP,rfl,_,rfl,a9 Í Í⟩
 ·have hc:¬part.length=4:=by
   grind
  refine k H .aJ Ÿ ?_;unfold jM;rw[ah hc];rfl
 ·have hc:part.length=4:=by
   grind
  have e:jM part=jx (codes "0123456789abcdef?") part:=by
   unfold jM;rw[af hc];rfl
  exact⟨_,rfl,_,ap,part,rfl,by decide,hP,hl,λz H' s1=>k H' _ s1 (by rw[e,z];rfl),λl z H' p hN=>k H' _ hN.1 (by rw[e,z];exact⟨p,rfl,hN.2.1,hN.2.2⟩)⟩
def dy(line:LI):Option (Nat×LI):=match JM.aI 32 line with
 |[a,b,c]=>if a=JM.jw then (match bw JM.uf b,ib c with
  |some s,some l=>some (s,l)
  |_,_=>none) else none
 |_=>none
def yY(H H':Hp):Option (Nat×LI)→V→Prop
 |none,v=>v=.aJ
 |some (s,l),v=>∃t c,v=.ref t∧H t=none∧H c=none∧H' t=some (.tup [.int (s:Nat),.ref c])∧H' c=some ņ
inductive R9(K:FR)(vs:aq)(H:Hp)(Q:VK)(E':XK):Prop
 |mk (ap:Addr) (line:LI) (_:vs=[.ref ap]) (_:ß ap Åo) (_:line.length≤100000) (_:∀H' v,ai H H'→yY H H' (dy line) v→Q v H')
def Eo:bC ["line","words","side","classes"] ["line"] (a7 Jx):=cu
def xm:LS:=["front","behind","unknown"]
def aeJ(F:br K "read_side" "read_side" Jx f fd)(tL:mg "len"=none)(cB:Cn mg "BLANK" År)(cS:Tn K mg "SIDES" (xm.map V.str))(dC:Å 1 "cut" ["text","mark"] (vw K)) (dS:Å 1 "spelled" ["written"] Bh) (dA:Å 2 "place_among" ["words","part"] (Eh K)) (dR:Å 3 "read_colours" ["part"] (Kg K)):
  a8 P w K mg base aE 4 f fd ["line"] (R9 K):=by
 obtain⟨aS,mS,hS⟩:=cS;refine F.ok Eo À;obtain⟨ap,line,rfl,hP,hl,k⟩:=h;have ug:dw 1 _:=hr.mono Ø;have rT:dw 2 _:=hr.mono Ø;refine⟨_,aB (cq 1 Eo.nd (bz (hr:=ug) dC (ae Ù Ϯ)))
  (aB (dq (PW.pt (pw_or (cI u0 ù bh (bT _))
    (pw_or1 (cI (Ra hr.units) (cA cQ á bh Õ) (bz (hr:=ug) dS (ae Dc ag)) (bT _))))) Ź d7)
  (aB (cq 2 Eo.nd (bz (hr:=rT) dA (ae (uX (v:=.ref aS) Ò mS rfl) œ)))
  (aB (cq 3 Eo.nd (bz (hr:=hr) dR œ))
  (aB (dq (PW.pt (pw_or Æd (pw_or1 (nU (qg õ))))) Ź d7)
  (aD (aZ (tO (ae è Ĳ)))))))),?_⟩
 refine⟨_,rfl,ap,32,line,rfl,hP,hl,λH1 p qs hN hp nd np hf=>?_⟩;have cJ:((qs.map V.ref).length:Int)=((JM.aI 32 line).length:Nat):=by rw[aA,hp.len]
 have s1:=hN.1;refine⟨_,rfl,p,_,rfl,.inl (aa.of hN.2.2),rfl,_,rfl,a9 Í Í⟩
 ·refine k H1 .aJ s1 ?_;have:dy line=none:=by
   unfold dy;grind
  rw[this];rfl
 ·have h3:(JM.aI 32 line).length=3:=by
   grind
  obtain⟨a,b,c,e3⟩:∃a b c,JM.aI 32 line=[a,b,c]:=by
   match JM.aI 32 line,h3 with
   |[a,b,c],_=>exact⟨a,b,c,rfl⟩
  rw[e3] at hp;have Kl:∀w∈[a,b,c],w.length≤100000:=λw hw=>gW (xk 32 line w Ç) hl;obtain⟨qa,qb,qc,rfl⟩:∃x y z,qs=[x,y,z]:=by
   have:=hp.len
   match qs,this with
   |[x,y,z],_=>exact⟨x,y,z,rfl⟩
  cases hp with
  |cons ha hp=>
   cases hp with
   |cons hb hp=>
    cases hp with
    |cons jc hp=>
     refine⟨_,rfl,p,_,0,V.ref qa,rfl,rfl,aa.of hN.2.2,rfl,"seen",rfl,by decide,λH2 p2 lX=>?_⟩;have s2:=s1.trans lX.1;refine⟨qa,p2,a,codes "seen",rfl,rfl,aa.of (lX.1 _ _ ha),aa.of lX.2.2,_,rfl,a9 Ė Ė⟩
     ·refine k H2 .aJ s2 ?_;have:dy line=none:=by
       unfold dy;rw[e3];show(if a=JM.jw then _ else none)=none;simp at hd;rw[ah (λz=>hd (z.trans rfl))]
      rw[this];rfl
     ·simp at hd;refine⟨_,rfl,p,_,1,V.ref qb,rfl,rfl,aa.of (lX.1 _ _ hN.2.2),rfl,aS,qb,xm,b,rfl,hS H2,by decide,aa.of (lX.1 _ _ hb),λH3 s3=>?_⟩;refine⟨_,rfl,p,_,2,V.ref qc,rfl,rfl,aa.of (s3 _ _ (lX.1 _ _ hN.2.2)),rfl,qc,c,rfl,aa.of (s3 _ _ (lX.1 _ _ jc)),Kl c Â,λz H4 s4=>?_,λl z H4 p4 Ep=>?_⟩
      ·
       have en:dy line=none:=by
        unfold dy;rw[e3];show(if a=JM.jw then _ else none)=none;rw[af (show a=JM.jw from hd),z];cases bw JM.uf b <;> rfl
       refine⟨_,rfl,_,rfl,a9 (λ_=>?_) (λ_=>⟨_,rfl,_,rfl,ky ?_⟩)⟩
       ·exact k H4 .aJ ((s2.trans s3).trans s4) (by rw[en];rfl)
       ·exact k H4 .aJ ((s2.trans s3).trans s4) (by rw[en];rfl)
      ·have s4:=Ep.1;refine⟨_,rfl,_,rfl,a9 (λhn=>?_) (λhn=>⟨_,rfl,_,rfl,mZ ?_⟩)⟩
       ·simp at hn;have en:dy line=none:=by
         unfold dy;rw[e3];show(if a=JM.jw then _ else none)=none;rw[af (show a=JM.jw from hd),show JM.uf=xm.map codes from rfl];cases e:bw Çv b with
         |none=>rfl
         |some i=>rw[e] at hn;cases hn
        exact k H4 .aJ ((s2.trans s3).trans s4) (by rw[en];rfl)
       ·simp at hn;obtain⟨i,ei⟩:∃i,bw Çv b=some i:=by
         cases e:bw Çv b with
         |none=>rw[e] at hn;exact absurd rfl hn
         |some i=>simp
        have en:dy line=some (i,l):=by
         unfold dy;rw[e3];show(if a=JM.jw then _ else none)=_;rw[af (show a=JM.jw from hd),z,show JM.uf=xm.map codes from rfl,ei]
        refine⟨_,rfl,_,rfl,(by show 2≤sizeLine;decide),λt ht=>?_⟩;have s5:=(s2.trans s3).trans s4;refine k _ (.ref t) (fh s5 (s5.free ht)) ?_;rw[en];refine⟨t,p4,rfl,s5.free ht,(s2.trans s3).free Ep.2.1,?_,?_⟩
        ·rw[ao,ei];rfl
        ·rw[au (eN Ep.2.2 ht)];exact Ep.2.2
end
inductive Told where
 |side (s:Nat) (l:LI)
 |hoist (k:Nat)
 |shape (k:Nat)
 |row (l:LI)
def Told.sort:Told→Nat
 |.side _ _=>0
 |.hoist _=>1
 |.shape _=>2
 |.row _=>3
def jN(line:LI):Option Told:=match dy line with
 |some x=>some (.side x.1 x.2)
 |none=>match bw JM.ik line with
  |some k=>some (.hoist k)
  |none=>match bw JM.il line with
   |some k=>some (.shape k)
   |none=>(jM line).map .row
def yZ(H H':Hp):Told→V→Prop
 |.side s l,v=>∃t c,v=.ref t∧H c=none∧H' t=some (.tup [.int (s:Nat),.ref c])∧H' c=some ņ
 |.hoist k,v=>v=.int (k:Nat)
 |.shape k,v=>v=.int (k:Nat)
 |.row l,v=>∃c,v=.ref c∧H c=none∧H' c=some ņ
def aeK(H H':Hp):Option Told→V→Prop
 |none,v=>v=.aJ
 |some t,v=>∃q y,v=.ref q∧H q=none∧H' q=some (.tup [.int (t.sort:Nat),y])∧yZ H H' t y
inductive Sa(K:FR)(vs:aq)(H:Hp)(Q:VK)(E':XK):Prop
 |mk (ap:Addr) (line:LI) (_:vs=[.ref ap]) (_:ß ap Åo) (_:line.length≤100000) (_:∀H' v,ai H H'→aeK H H' (jN line) v→Q v H')
def Sb:LS:=["hoist","hoist above","hoist below","hoist above below"]
def Sd:LS:=["square","tails","long","shape?"]
theorem yZ.same(h:yZ H H1 t v)(s:ai H1 H2):yZ H H2 t v:=by
 cases t with
 |side a l=>obtain⟨t,c,h1,h2,h3,h4⟩:=h;exact⟨t,c,h1,h2,s _ _ h3,s _ _ h4⟩
 |hoist k=>exact h
 |shape k=>exact h
 |row l=>obtain⟨c,h1,h2,h3⟩:=h;exact⟨c,h1,h2,s _ _ h3⟩
def aeL(h0:yY H H' (dy line) v0)(h3:LstAt H H' (jM line) v3)(hx:[v0,oI Ľ,oI ļ,v3][i]? =some x) (hn:x≠ .aJ) (hb:∀j y,j<i→[v0,oI Ľ,oI ļ,v3][j]? =some y→y=.aJ):
  ∃t,jN line=some t∧t.sort=i∧yZ H H' t x:=by
 have e0:v0=.aJ→dy line=none:=λz=>by
  cases e:dy line with
  |none=>rfl
  |some p=>
   rw[e] at h0;obtain⟨t,c,h1,_⟩:=h0;simp_all
 have eo:∀o:Option Nat,oI o=.aJ→o=none:=λo z=>by
  cases o with
  |none=>rfl
  |some k=>cases z
 match i,hx with
 |0,hx=>
  have ex:=aO hx;subst ex;cases e:dy line with
  |none=>rw[e] at h0;exact absurd h0 hn
  |some p=>
   rw[e] at h0;obtain⟨t,c,h1,h2,h3,h4,h5⟩:=h0;refine⟨.side p.1 p.2,by unfold jN;rw[e],rfl,t,c,h1,h3,h4,h5⟩
 |1,hx=>
  have ex:=aO hx;have z0:=e0 Æg;cases e:bw JM.ik line with
  |none=>rw[e] at ex;exact absurd ex.symm hn
  |some k=>
   rw[e] at ex;exact⟨.hoist k,by unfold jN;rw[z0,e],rfl,ex.symm⟩
 |2,hx=>
  have ex:=aO hx;have z0:=e0 Æg;have z1:=eo _ (hb 1 _ Ä rfl);cases e:bw JM.il line with
  |none=>rw[e] at ex;exact absurd ex.symm hn
  |some k=>
   rw[e] at ex;exact⟨.shape k,by unfold jN;rw[z0,z1,e],rfl,ex.symm⟩
 |3,hx=>
  have ex:=aO hx;subst ex;have z0:=e0 Æg;have z1:=eo _ (hb 1 _ Ä rfl);have z2:=eo _ (hb 2 _ Ä rfl);cases e:jM line with
  |none=>rw[e] at h3;exact absurd h3 hn
  |some l=>
   rw[e] at h3;obtain⟨c,h1,h2,h4⟩:=h3;exact⟨.row l,by unfold jN;rw[z0,z1,z2,e];rfl,rfl,c,h1,h2,h4⟩
 |i+4,hx=>simp at hx
def aeM(h0:yY H H' (dy line) v0)(h3:LstAt H H' (jM line) v3)(hb:∀j y,j<4→[v0,oI Ľ,oI ļ,v3][j]? =some y→y=.aJ):jN line=none:=by
 have z0:=hb 0 v0 Ä rfl;have z1:=hb 1 _ Ä rfl;have z2:=hb 2 _ Ä rfl;have z3:=hb 3 v3 Ä rfl;unfold jN;cases e:dy line with
 |some p=>
  rw[e] at h0;obtain⟨t,c,h1,_⟩:=h0;simp_all
 |none=>
  cases e1:bw JM.ik line with
  |some k=>rw[e1] at z1;cases z1
  |none=>
   cases e2:bw JM.il line with
   |some k=>rw[e2] at z2;cases z2
   |none=>
    cases e3:jM line with
    |some l=>
     rw[e3] at h3;obtain⟨c,h1,_⟩:=h3;simp_all
    |none=>rfl
theorem yY.same(h:yY H H1 o v)(s0:ai H0 H)(s:ai H1 H2):yY H0 H2 o v:=by
 cases o with
 |none=>exact h
 |some p=>obtain⟨t,c,h1,h2,h3,h4,h5⟩:=h;exact⟨t,c,h1,s0.free h2,s0.free h3,s _ _ h4,s _ _ h5⟩
theorem LstAt.same(h:LstAt H H1 o v)(s0:ai H0 H)(s:ai H1 H2):LstAt H0 H2 o v:=by
 cases o with
 |none=>exact h
 |some p=>obtain⟨c,h1,h2,h3⟩:=h;exact⟨c,h1,s0.free h2,s _ _ h3⟩
section
variable{P:Pg}{w:Wd}{K:FR}{mg:MG}{base:Heap}
def Km:bC ["line","readings","sort","told"] ["line"] (a7 Jw):=cu
def aeN(F:br K "read_line" "read_line" Jw f fd)(tE:mg "enumerate"=none)(cH:Tn K mg "HOIST_LINES" (Sb.map V.str))(cS:Tn K mg "SEEN_SHAPES" (Sd.map V.str))(dS:Å 4 "read_side" ["line"] (R9 K)) (dA:Å 2 "place_among" ["words","part"] (Eh K)) (dR:Å 3 "read_row" ["line"] (R8 K)):
  a8 P w K mg base aE 5 f fd ["line"] (Sa K):=by
 obtain⟨aH,mH,hH⟩:=cH;obtain⟨aS,mS,hS⟩:=cS;refine F.ok Km À;obtain⟨ap,line,rfl,hP,hl,k⟩:=h;have rT:dw 2 _:=hr.mono Ø;have Ko:dw 3 _:=hr.mono Ø;refine⟨_,aB (cq 1 Km.nd (tO (ae (bz (hr:=hr) dS ñ)
   (ae (bz (hr:=rT) dA (ae (uX (v:=.ref aH) Ò mH rfl) ñ))
   (ae (bz (hr:=rT) dA (ae (uX (v:=.ref aS) Ò mS rfl) ñ))
   (ae (bz (hr:=Ko) dR ñ) ag))))))
  (aB (Š (Q3 Ò tE Œ) (iB 2 3 Km.nd)
   (aD (dq (nU (Hf õ)) (aD (aZ (tO (ae è Ĳ)))) d7)))
  Ź),?_⟩
 refine⟨_,rfl,ap,line,rfl,hP,hl,λH1 v0 s1 h0=>?_⟩;refine⟨_,rfl,aH,ap,Sb,line,rfl,hH H1,by decide,s1.seq hP,λH2 s2=>?_⟩;have eY:=s1.trans s2;refine⟨_,rfl,aS,ap,Sd,line,rfl,hS H2,by decide,eY.seq hP,λH3 s3=>?_⟩;have pG:=eY.trans s3;refine⟨_,rfl,ap,line,rfl,pG.seq hP,hl,λH4 v3 s4 h3=>?_⟩;have n0:=pG.trans s4;refine⟨(by show 4≤sizeLine;decide),λtt Se=>?_⟩;have s5:=fh (o:=.tup [v0,oI Ľ,oI ļ,v3]) n0 (n0.free Se);have sl:∀{H':Hp},ai (upd H4 tt (.tup [v0,oI Ľ,oI ļ,v3])) H'→ai H4 H':=λz=>(aK Se).trans z;refine⟨_,rfl,tt,[v0,oI Ľ,oI ļ,v3],rfl,bu.of ao,Q4 (K:=K) (a:=tt) (xs:=[v0,oI Ľ,oI ļ,v3])
  (λi σ H'=>∃u2 u3:Option V,σ=[some Èk,some (.ref tt),u2,u3]∧ai (upd H4 tt (.tup [v0,oI Ľ,oI ļ,v3])) H'∧∀j y,j<i→[v0,oI Ľ,oI ļ,v3][j]? =some y→y=.aJ)
  ⟨none,none,rfl,ai.refl _,λj y hj _=>absurd hj Ä⟩ (λi σ H' _ ⟨_,_,_,s6,_⟩=>ai.tup s6 (bu.of ao)) ?_ ?_⟩
 ·rintro i x T σ H' hi ⟨u2,u3,rfl,s6,hb⟩ hT;have s7:=fh (o:=.tup [.int (i:Nat),x]) s6 (s6.free hT);refine⟨T,_,rfl,bu.of ao,rfl,_,_,rfl,_,_,rfl,rfl,_,rfl,_,rfl,a9 Í Í⟩
  ·simp at hc;refine⟨_,rfl,_,rfl,(by show 2≤sizeLine;decide),λq hq=>?_⟩;have s8:=fh (o:=.tup [.int (i:Nat),x]) s7 (s7.free hq);have s9:=s5.trans s8;obtain⟨t,et,es,ta⟩:=aeL (h0.same Ÿ (((s2.trans s3).trans s4).trans (sl s8))) (h3.same pG (sl s8)) hi hc hb;refine k _ Èh s9 ?_;rw[et];refine⟨q,x,rfl,(s5.trans s7).free hq,?_,ta⟩;rw[ao,es]
  ·simp at hc;refine⟨_,_,rfl,s7,λj y hj hy=>?_⟩;grind
 ·rintro σ H' ⟨u2,u3,rfl,s6,hb⟩;have en:=aeM (h0.same Ÿ (((s2.trans s3).trans s4).trans (sl s6))) (h3.same pG (sl s6)) hb;exact k H' .aJ (s5.trans s6) (by rw[en];rfl)
end
def kG(m:gi):Bool:=match m.ak.getLast? with
 |some g=>g.flags.isEmpty
 |none=>false
def jy(m:gi):Bool:=match m.ak.getLast? with
 |some g=>(match g.flags.getLast? with
  |some s=>decide (s.2.length<16)
  |none=>false)
 |none=>false
def pH(m:gi):Bool:=!m.ak.isEmpty&&(!kG m&& !jy m)
def dj(m:gi)(k:Nat):Bool:=
 if (m.classes.isEmpty||decide (k=0))=true then m.classes.isEmpty&&decide (k=0)
 else if (decide (k=3)||jy m)=true then decide (k=3)&&jy m
 else if decide (k=1)=true then decide (m.ak.length<4)&& !kG m
 else match m.ak.getLast? with
  |some g=>decide (g.flags.length<8)
  |none=>false
inductive pI(C:Cs)(b:gi→Bool)(vs:aq)(H:Hp)(Q:VK)(E':XK):Prop
 |mk (p:eK) (_:vs=[.ref p.a]) (_:Lies H Ác) (_:∀H',ai H H'→Q (.bl (b p.m)) H')
def pI.len:∀vs H Q E,pI C b vs H Q E→vs.length=(["plate"]:LS).length:=λvs H Q E h=>by
 obtain⟨p,rfl,_⟩:=h;rfl
def aeO(h:m.ak=[]):kG m=false:=by unfold kG;rw[h];rfl
def Sf{p:eK}{gs:List cg}{g:cg}(h:p.ak=gs++[g]):kG p.m=g.flags.isEmpty:=by
 unfold kG eK.m;rw[h,bV,aY,lE,Aa,GI];show(g.flags.map eC.m).isEmpty=_;simp
def aeP(h:m.ak=[]):jy m=false:=by unfold jy;rw[h];rfl
def aeQ{p:eK}{gs:List cg}{g:cg}(h:p.ak=gs++[g])(hf:g.flags=[]):jy p.m=false:=by
 unfold jy eK.m;rw[h,bV,aY,lE,Aa,GI];show(match (g.flags.map eC.m).getLast? with
  |some s=>decide (s.2.length<16)
  |none=>false)=_
 simp_all
def aeR{p:eK}{gs:List cg}{g:cg}{ss:List eC}{s:eC}(h:p.ak=gs++[g])(hf:g.flags=ss++[s]):jy p.m=decide (s.cells.length<16):=by
 unfold jy eK.m;rw[h,bV,aY,lE,Aa,GI];show(match (g.flags.map eC.m).getLast? with
  |some s=>decide (s.2.length<16)
  |none=>false)=_
 rw[hf,bV,aY,lE,Aa,GI];rfl
section
variable{P:Pg}{w:Wd}{K:FR}{mg:MG}{base:Heap}{C:Cs}
def aeS:bC ["plate"] ["plate"] (a7 JA):=cu
def aeT(F:br K "lacks_flags" "lacks_flags" JA f fd)(T:lW K C):Ê aE 1 f fd ["plate"] (pI C kG):=by
 refine F.ok aeS À;obtain⟨p,rfl,L,k⟩:=h;refine⟨_,aD (aZ (tK ϳ
  (rq (jt ϫ Ġ ĳ (bT _))))),?_⟩
 refine⟨_,rfl,ŧ Åh ⟨dQ _,λe1 n1=>?_⟩⟩;have s1:ai H Äu:=aK n1;refine⟨p.gl,e1,_,rfl,rfl,aa.of (s1 _ _ L.gl),aa.of ao,_,rfl,?_⟩;rcases pE p.ak with e|⟨gs,g,e⟩
 ·rw[e];refine mZ ?_;have q:=k _ s1;rw[aeO (by unfold eK.m;rw[e];rfl)] at q;exact q
 ·have hg:g∈p.ak:=by rw[e];simp
  have L1:=L.same s1;have ne:(!(p.ak.map λg=>V.ref g.a).isEmpty)=true:=by rw[e,bV];simp
  rw[ne];refine ky ⟨_,rfl,bo L1.pl T.cP T.m5 Åh ⟨_,rfl,p.gl,_,_,V.ref g.a,rfl,rfl,aa.of L1.gl,?_,bo ((L1.sub hg).ga) T.cG T.vz (vy g) ⟨dQ _,λe2 n2=>?_⟩⟩⟩
  ·rw[e,bV];exact u6 _ _
  ·have s2:=fh (o:=.lst []) s1 (s1.free n2);have L2':=L.same s2;refine⟨g.l,e2,_,rfl,rfl,aa.of (L2'.sub hg).fl,aa.of ao,?_⟩;have q:=k _ s2;rw[Sf e] at q;simp_all
def aeV:bC ["plate"] ["plate"] (a7 JB):=cu
def aeW(F:br K "lacks_cells" "lacks_cells" JB f fd)(T:lW K C)(tL:mg "len"=none)(cC:Cn mg "CELLS" (.int 16))(dF:Å 1 "lacks_flags" ["plate"] (pI C kG)):
  a8 P w K mg base aE 2 f fd ["plate"] (pI C jy):=by
 refine F.ok aeV À;obtain⟨p,rfl,L,k⟩:=h;refine⟨_,aB (dq (PW.pt (pw_or (cI ϫ ë ĳ (bT _)) (pw_or1 (jr (bz dF ñ))))) Âa d7)
  (aD (aZ (jt wH (c6 f7 Ò tL PySem.boot_len (ae (bj (cA cQ Ġ Ák Õ) rfl) ag)) (b7 cC) (bT _)))),?_⟩
 refine⟨_,rfl,ŧ Åh ⟨dQ _,λe1 n1=>?_⟩⟩;have s1:ai H Äu:=aK n1;have L1:=L.same s1;refine⟨p.gl,e1,_,rfl,rfl,aa.of L1.gl,aa.of ao,_,rfl,?_⟩;rcases pE p.ak with e|⟨gs,g,e⟩
 ·rw[e];refine ky ?_;have q:=k _ s1;rw[aeP (by unfold eK.m;rw[e];rfl)] at q;exact q
 ·have hg:g∈p.ak:=by rw[e];simp
  have ne:(p.ak.map λg=>V.ref g.a).isEmpty=false:=by rw[e,bV];simp
  rw[ne];refine mZ ⟨_,rfl,p,rfl,L1,λH2 s2=>Ď⟩;have s3:=s1.trans s2;have L3:=L.same s3;rw[Sf e];rcases pE g.flags with e2|⟨ss,sg,e2⟩
  ·rw[e2];refine ky ?_;have q:=k _ s3;rw[aeQ e e2] at q;exact q
  ·have hs:sg∈g.flags:=by rw[e2];simp
   have ne2:g.flags.isEmpty=false:=by rw[e2];simp
   rw[ne2];refine mZ ⟨_,rfl,bo L3.pl T.cP T.m5 Åh ⟨_,rfl,p.gl,_,_,V.ref g.a,rfl,rfl,aa.of L3.gl,?_,bo ((L3.sub hg).ga) T.cG T.vz (vy g) ⟨_,rfl,g.l,_,_,V.ref sg.a,rfl,rfl,aa.of (L3.sub hg).fl,?_,bo (((L3.sub hg).yW hs).sa) T.cS T.Ek (Ej sg) ⟨sg.l,_,rfl,.inl (aa.of ((L3.sub hg).yW hs).sl),_,_,rfl,rfl,?_⟩⟩⟩⟩
   ·rw[e,bV];exact u6 _ _
   ·rw[e2,bV];exact u6 _ _
   ·have q:=k _ s3;rw[aeR e e2] at q;show Q (V.bl (decide ((((iv sg.cells).length:Nat):Int)<16))) H2;rw[eX,show decide (((sg.cells.length:Nat):Int)<16)=decide (sg.cells.length<16) by
     by_cases z:sg.cells.length<16
     ·rw[eF z,eF Ä]
     ·rw[fC z,fC Ä]]
    exact q
def aeX:bC ["plate"] ["plate"] (a7 JC):=cu
def aeY(F:br K "has_whole_hoists" "has_whole_hoists" JC f fd)(T:lW K C)(dF:Å 1 "lacks_flags" ["plate"] (pI C kG))(dC:Å 2 "lacks_cells" ["plate"] (pI C jy)):
  a8 P w K mg base aE 3 f fd ["plate"] (pI C pH):=by
 refine F.ok aeX À;obtain⟨p,rfl,L,k⟩:=h;refine⟨_,aD (aZ (tK ϳ
  (tK (Aq (bz dF ñ)) (rq (Aq (bz dC ñ)))))),?_⟩
 refine⟨_,rfl,ŧ Åh ⟨dQ _,λe1 n1=>?_⟩⟩;have s1:ai H Äu:=aK n1;have L1:=L.same s1;refine⟨p.gl,e1,_,rfl,rfl,aa.of L1.gl,aa.of ao,_,rfl,?_⟩;have ew:p.m.ak.isEmpty=p.ak.isEmpty:=by unfold eK.m;cases p.ak <;> rfl
 rw[show(p.ak.map λg=>V.ref g.a).isEmpty=p.ak.isEmpty by simp];refine a9 Í Í
 ·refine⟨_,rfl,p,rfl,L1,λH2 s2=>⟨_,rfl,_,rfl,a9 Ė Ė⟩⟩
  ·refine⟨_,rfl,p,rfl,L1.same s2,λH3 s3=>Ď⟩;have q:=k _ ((s1.trans s2).trans s3);unfold pH at q;grind
  ·have q:=k _ Àv;unfold pH at q;simp_all
 ·have q:=k _ s1;unfold pH at q;simp_all
inductive Sg(C:Cs)(vs:aq)(H:Hp)(Q:VK)(E':XK):Prop
 |mk (p:eK) (n:Nat) (_:vs=[.ref p.a,.int (n:Nat)]) (_:Lies H Ác) (_:∀H',ai H H'→Q (.bl (dj p.m n)) H')
def aeZ:bC ["plate","sort"] ["plate","sort"] (a7 Jz):=cu
def Er(a b:Nat):decide (V.int (a:Nat)=V.int (b:Nat))=decide (a=b):=by
 grind
def dec_lt(a b:Nat):decide (((a:Nat):Int)<((b:Nat):Int))=decide (a<b):=by
 simp
def ae0(F:br K "may_stand" "may_stand" Jz f fd)(T:lW K C)(tL:mg "len"=none)(c0:Cn mg "SIDE_LINE" Ň)(c1:Cn mg "HOIST_LINE" Ŝ)(c3:Cn mg "CELLS_LINE" (.int 3))(cH:Cn mg "MOST_HOISTS" (.int 4))(cF:Cn mg "MOST_FLAGS" (.int 8))(dF:Å 1 "lacks_flags" ["plate"] (pI C kG)) (dC:Å 2 "lacks_cells" ["plate"] (pI C jy)):
  a8 P w K mg base aE 3 f fd ["plate","sort"] (Sg C):=by
 refine F.ok aeZ À;obtain⟨p,n,rfl,L,k⟩:=h;refine⟨_,aB (dq (PW.pt (pw_or (cI ϫ ë ĳ (bT _)) (pw_or1 (cI hJ á (b7 c0) (bT _)))))
   (aD (aZ (tK (jt ϫ ë ĳ (bT _)) (rq (jt hJ á (b7 c0) (bT _)))))) d7)
  (aB (dq (PW.pt (pw_or (cI hJ á (b7 c3) (bT _)) (pw_or1 (jr (bz dC ñ)))))
   (aD (aZ (tK (jt hJ á (b7 c3) (bT _)) (rq (bz dC ñ))))) d7)
  (aB (dq (cI hJ á (b7 c1) (bT _))
   (aD (aZ (tK (jt wH ŷ (b7 cH) (bT _)) (rq (Aq (bz dF ñ)))))) d7)
  (aD (aZ (tK ϳ (rq (jt wH (c6 f7 Ò tL PySem.boot_len (ae Ġ ag)) (b7 cF) (bT _)))))))),?_⟩
 have ec:p.m.classes.isEmpty=(iv p.classes).isEmpty:=by unfold eK.m iv;cases p.classes <;> rfl
 refine⟨_,rfl,bo L.pl T.cP T.El (Ki p) ⟨dQ _,λe1 n1=>?_⟩⟩;have s1:ai H Äu:=aK n1;have L1:=L.same s1;refine⟨p.cl,e1,_,rfl,rfl,aa.of L1.cl,aa.of ao,_,rfl,?_⟩;rw[←ec];have first:∀H1,ai H H1→(p.m.classes.isEmpty||decide (n=0))=true→As (Hh (bQ (Rb K) (fY K ώ "classes") (yx du)) (bQ nW ϖ Ãu)) {nx:=λ_ H'=>Q .aJ H',rt:=Q} [some Âq,some (.int (n:Nat))] H1:=λH1 t1 hc=>by
  have M1:=L.same t1;refine⟨_,rfl,bo M1.pl T.cP T.El (Ki p) ⟨dQ _,λe2 n2=>?_⟩⟩;have t2:=fh (o:=.lst []) t1 (t1.free n2);refine⟨p.cl,e2,_,rfl,rfl,aa.of (L.same t2).cl,aa.of ao,_,rfl,?_⟩;rw[←ec];have q:=k _ t2;unfold dj at q;rw[af hc] at q;refine a9 Ė Ė
  ·refine⟨_,rfl,rfl,?_⟩;simp_all
  ·simp_all
 refine a9 (λhc=>first _ s1 Ç) Í;have hc:p.m.classes.isEmpty=false:=by simpa using hc
 refine Ő;rw[show V.int 0=V.int ((0:Nat):Int) from rfl,Er];refine a9 (λhd=>first _ s1 Ç) Ė;have hd:decide (n=0)=false:=by simpa using hd
 have W5:∀H1,ai H H1→(decide (n=3)||jy p.m)=true→As (Hh (bQ nW ϖ (tC (.int 3))) (gY (pI C jy) [] E0 (bg ώ du))) {nx:=λ_ H'=>Q .aJ H',rt:=Q} [some Âq,some (.int (n:Nat))] H1:=λH1 t1 h2=>by
  refine Ő;rw[show V.int 3=V.int ((3:Nat):Int) from rfl,Er];refine a9 (λh3=>⟨_,rfl,p,rfl,L.same t1,λH2 t2=>?_⟩) (λh3=>?_)
  ·have q:=k _ (t1.trans t2);unfold dj at q;simp_all
  ·simp at h3;have q:=k _ t1;unfold dj at q;simp_all
 refine Ő;rw[show V.int 3=V.int ((3:Nat):Int) from rfl,Er];refine a9 (λh3=>W5 _ s1 Ç) (λh3=>⟨_,rfl,p,rfl,L1,λH2 s2=>⟨_,rfl,a9 (λh4=>W5 _ Àv Ç) (λh4=>?_)⟩⟩);have h3:decide (n=3)=false:=by simpa using h3
 simp at h4;have s3:=s1.trans s2;have bG:∀H',ai H H'→Q (.bl (if decide (n=1)=true then decide (p.m.ak.length<4)&& !kG p.m else match p.m.ak.getLast? with
  |some g=>decide (g.flags.length<8)
  |none=>false)) H':=λH' t=>by
  have q:=k _ t;unfold dj at q;rw[hc,hd,Bool.or_self,ah dZ,h3,h4,Bool.or_self,ah dZ] at q;exact q
 have L3:=L.same s3;refine Ő;rw[show V.int 1=V.int ((1:Nat):Int) from rfl,Er];refine a9 š š
 ·refine⟨_,rfl,bo L3.pl T.cP T.m5 Åh ⟨p.gl,_,rfl,.inl (aa.of L3.gl),_,_,rfl,rfl,_,rfl,?_⟩⟩;have e4:decide ((((p.ak.map λg=>V.ref g.a).length:Nat):Int)<4)=decide (p.m.ak.length<4):=by
   rw[show(4:Int)=((4:Nat):Int) from rfl,dec_lt];unfold eK.m;simp
  rw[e4];refine a9 (λh5=>⟨_,rfl,p,rfl,L3,λH3 s4=>Ď⟩) (λh5=>?_)
  ·have q:=bG _ (s3.trans s4);simp_all
  ·simp_all
 ·refine⟨_,rfl,bo L3.pl T.cP T.m5 Åh ⟨dQ _,λe5 n5=>?_⟩⟩;have s5:=fh (o:=.lst []) s3 (s3.free n5);have L5:=L.same s5;refine⟨p.gl,e5,_,rfl,rfl,aa.of L5.gl,aa.of ao,_,rfl,?_⟩;rcases pE p.ak with e|⟨gs,g,e⟩
  ·rw[e];refine mZ ?_;have q:=bG _ s5;rw[ah h1,show p.m.ak=[] by unfold eK.m;rw[e];rfl] at q;simp_all
  ·have hg:g∈p.ak:=by rw[e];simp
   have ne:(!(p.ak.map λg=>V.ref g.a).isEmpty)=true:=by rw[e,bV];simp
   rw[ne];refine ky ⟨_,rfl,bo L5.pl T.cP T.m5 Åh ⟨_,rfl,p.gl,_,_,V.ref g.a,rfl,rfl,aa.of L5.gl,?_,bo ((L5.sub hg).ga) T.cG T.vz (vy g) ⟨g.l,_,rfl,.inl (aa.of (L5.sub hg).fl),_,_,rfl,rfl,?_⟩⟩⟩
   ·rw[e,bV];exact u6 _ _
   ·have q:=bG _ s5;have eg:p.m.ak.getLast?=some g.m:=by
     unfold eK.m;simp_all
    rw[ah h1,eg] at q;show Q (V.bl (decide ((((g.flags.map λs=>V.ref s.a).length:Nat):Int)<((8:Nat):Int)))) _;rw[dec_lt,aA];have e6:g.m.flags.length=g.flags.length:=by unfold cg.m;simp only[aA]
    simp_all
end
def qD(m:gi):Told→gi
 |.side s l=>⟨s,l,m.ak⟩
 |.hoist k=>⟨m.side,m.classes,m.ak++[⟨decide (k%2=1),decide (k/2=1),[]⟩]⟩
 |.shape k=>⟨m.side,m.classes,m.ak.dropLast++(m.ak.getLast?.map λg=>(⟨g.above,g.below,g.flags++[(k,[])]⟩:iC)).toList⟩
 |.row l=>⟨m.side,m.classes,m.ak.dropLast++(m.ak.getLast?.map λg=>(⟨g.above,g.below,g.flags.dropLast++(g.flags.getLast?.map λs=>(s.1,s.2++l)).toList⟩:iC)).toList⟩
structure Rep(C:Cs)(H:Hp)(p:eK):Prop where
 lies:Lies H Ác
 nd:((eE C p).map (·.1)).Nodup
def Si(h:dj m 1=true):m.ak.length<4:=by
 unfold dj at h;simp_all
def ae1{m:gi}(h:dj m 2=true):∃g,m.ak.getLast?=some g∧g.flags.length<8:=by
 unfold dj at h;split at h
 ·simp at h
 ·split at h
  ·simp at h
  ·split at h
   ·rename_i z;exact absurd z Ø
   ·split at h
    ·rename_i g e;exact⟨g,e,by simpa using h⟩
    ·cases h
def ae2{m:gi}(h:dj m 3=true):∃g s,m.ak.getLast?=some g∧g.flags.getLast?=some s∧s.2.length<16:=by
 unfold dj at h;split at h
 ·simp at h
 ·split at h
  ·simp at h;unfold jy at h;split at h
   ·rename_i g e;split at h
    ·rename_i s e2;exact⟨g,s,e,e2,by simpa using h⟩
    ·cases h
   ·cases h
  ·rename_i h1 h2;exact absurd Â h2
def Kq{α β:Type}{f:α→β}{l:List α}{y:β}(h:(l.map f).getLast?=some y):∃r x,l=r++[x]∧f x=y:=by
 rcases pE l with e|⟨r,x,e⟩
 ·rw[e] at h;cases h
 ·refine⟨r,x,e,?_⟩;rw[e,bV,aY,lE,Aa,GI] at h;exact aO h
inductive Sj(C:Cs)(vs:aq)(H:Hp)(Q:VK)(E':XK):Prop
 |mk (p:eK) (t:Told) (v:V) (H0:Hp) (_:vs=[.ref p.a,.int (t.sort:Nat),v]) (_:Rep C H p) (_:ai H0 H) (_:Lies H0 Ác) (_:yZ H0 H t v) (_:(∀l,t=.row l→l.length=4)) (_:dj p.m t.sort=true) (_:∀H' p',p'.a=p.a→p'.m=qD p.m t→Rep C H' p'→(∀b o,H b=some o→b∉(eE C p).map (·.1)→H' b=some o)→(∀b,b∈(eE C p').map (·.1)→b∈(eE C p).map (·.1)∨H0 b=none)→Q .aJ H')
def ae3(h:Lies H ns)(hb:b∈ns.map (·.1)):∃o,H b=some o:=by
 obtain⟨x,hx,rfl⟩:=cb.mp hb;exact⟨_,h x hx⟩
def Bl(h:Lies H ns)(hb:H b=none):b∉ns.map (·.1):=λz=>by
 obtain⟨o,e⟩:=ae3 h z;simp_all
def Kr(L:Lies H (A++(b,o)::B))(nd:((A++(b,o)::B).map (·.1)).Nodup)(keep:∀c u,H c=some u→c≠b→H2 c=some u)(hb:H2 b=some o')(hN:Lies H2 N):
  Lies H2 (A++(b,o')::(B++N)):=λx hx=>by
 rw[bV,aY] at nd;obtain⟨n1,n2,n3⟩:=OC.mp nd;obtain⟨n4,n5⟩:=j4.mp n2;rcases gK.mp hx with hx|hx
 ·exact keep _ _ (L x (z8 _ hx)) (n3 x.1 (cb.mpr ⟨x,hx,rfl⟩) b gu)
 ·rcases bf.mp hx with rfl|hx
  ·omega
  ·rcases gK.mp hx with hx|hx
   ·exact keep _ _ (L x (tj _ (aN _ hx))) λz=>n4 (by grind)
   ·exact hN x hx
def Ks{A B N:List Nd}{b:Addr}{o o':HO}(nd:((A++(b,o)::B).map (·.1)).Nodup)(hn:(N.map (·.1)).Nodup)(hd:∀c,c∈N.map (·.1)→c∉(A++(b,o)::B).map (·.1)):((A++(b,o')::(B++N)).map (·.1)).Nodup:=by
 have e:(A++(b,o')::(B++N)).map (·.1)=(A++(b,o)::B).map (·.1)++N.map (·.1):=by simp
 rw[e];exact OC.mpr ⟨nd,hn,λx hx y hy z=>hd y hy (by rw[←z];exact hx)⟩
def Ku{A B N:List Nd}{b:Addr}{o o':HO}{c:Addr}(h:c∈(A++(b,o')::(B++N)).map (·.1)):c∈(A++(b,o)::B).map (·.1)∨c∈N.map (·.1):=by
 grind
def Sk{gs:List cg}{g g':cg}(h:g.a=g'.a):((gs++[g]).map λg=>V.ref g.a)=(gs++[g']).map λg=>V.ref g.a:=by
 simp_all
def ae4{ss:List eC}{s s':eC}(h:s.a=s'.a):((ss++[s]).map λs=>V.ref s.a)=(ss++[s']).map λs=>V.ref s.a:=by
 simp_all
section
variable{P:Pg}{w:Wd}{K:FR}{mg:MG}{base:Heap}{C:Cs}
def ae5:bC ["plate","sort","told"] ["plate","sort","told"] (a7 JD):=cu
def ae6(k:Nat):decide (V.int (((k:Nat):Int)%2)=V.int 1)=decide (k%2=1):=by
 grind
def ae7(k:Nat):decide (V.int (((k:Nat):Int)/2)=V.int 1)=decide (k/2=1):=by
 grind
def ae8{f:Addr}{fd:FD}(F:br K "put" "put" JD f fd)(T:lW K C)(c0:Cn mg "SIDE_LINE" Ň)(c1:Cn mg "HOIST_LINE" Ŝ)(c2:Cn mg "SHAPE_LINE" (.int 2))(dG:ÿ "Glimpse" C.G ["above","below","flags"]) (dS:ÿ "Sighting" C.S ["shape","cells"]):Ê aE 3 f fd ["plate","sort","told"] (Sj C):=by
 refine F.ok ae5 À;obtain⟨p,t,v,H0,rfl,R,s0,L0,ta,h4,may,k⟩:=h;refine⟨_,aD (dq (cI hJ á (b7 c0) (bT _))
   (aB (e9 Ù (cA yz è bh Õ) rfl) (aD (e9 Ù (cA yz è bh Õ) rfl)))
  (aD (dq (cI hJ á (b7 c1) (bT _))
   (aD (rE (Ý ë (ae (pF dG hr
    (ae (jt hJ (eP Ht è bh) bh (bT _)) (ae (jt hJ (eP Zp è bh) bh (bT _)) Äh))) ag))))
  (aD (dq (cI hJ á (b7 c2) (bT _))
   (aD (rE (Ý Ġ (ae (pF dS hr
    (ae è Äh)) ag))))
   (aD (rE (rK PySem.F.plainAttrs_list PySem.F.slot_list_extend PySem.F.type_list_extend P0 (bj (cA cQ Ġ Ák Õ) rfl) ţ)))))))),?_⟩
 have L:=R.lies;cases t with
 |side sd l=>
  obtain⟨tt,c,rfl,Sl,ht,hc⟩:=ta;refine Ϗ;refine⟨_,rfl,tt,_,0,_,rfl,rfl,bu.of ht,rfl,_,rfl,p.a,C.P,p.dx,_,rfl,L.pl,T.cP,T.Kk,(by show 3<1000;decide),?_⟩;have nta:=OW ht L.pl Â;refine⟨_,rfl,tt,_,1,_,rfl,rfl,bu.of (by rw[au nta];exact ht),rfl,_,rfl,p.a,C.P,p.dx,_,rfl,ao,T.cP,T.El,?_,?_⟩
  ·exact oQ (HB _ _ _) (by show 4<1000;decide)
  ·have Sm:=Bl L0 Sl;have y4:p.a∈(eE C p).map (·.1):=by unfold eE;simp
   have Es:c≠p.a:=λz=>Sm Ç;have nd:=R.nd;have Sn:=(j4.mp nd);have nd2:=(j4.mp Sn.2);have sub:∀b,b∈((p.gl,HO.lst (p.ak.map λg=>V.ref g.a))::p.ak.flatMap Åi).map (·.1)→b∈(eE C p).map (·.1):=λb hb=>aN _ (aN _ hb);refine k _ {p with cl:=c,side:=sd,classes:=l} rfl rfl ⟨λx hx=>?_,?_⟩ Âh Ċ
   ·have hx:x∈(p.a,HO.ins C.P p.dx (lV {p with cl:=c,side:=sd,classes:=l}))::(c,HO.lst (iv l))::((p.gl,HO.lst (p.ak.map λg=>V.ref g.a))::p.ak.flatMap Åi):=hx;rcases bf.mp hx with rfl|hx
    ·rw[ao];rfl
    ·rcases bf.mp hx with rfl|hx
     ·rw[au Es,au Es];omega
     ·have jO:x.1≠p.a:=λz=>Sn.1 (by grind);rw[au jO,au jO];exact L x (aN _ (aN _ hx))
   ·refine j4.mpr ⟨λz=>?_,j4.mpr ⟨λz=>Sm (sub c z),nd2.2⟩⟩;grind
   ·rw[au (λz=>nb Ç),au (λz=>nb Ç)];omega
   ·rcases bf.mp hb with z|z
    ·simp_all
    ·grind
 |hoist n=>
  obtain rfl:v=V.int (n:Nat):=ta;have cJ:=Si may;refine⟨_,rfl,rfl,_,rfl,ite_no (show ¬V.int ((1:Nat):Int)=V.int 0 by decide) Ϗ⟩;refine⟨_,rfl,ŧ Åh ⟨.inl ⟨rfl,_,aa.of L.gl⟩,_,rfl,_,_,rfl,rfl,Ä,rfl,_,rfl,_,_,rfl,rfl,⟨by decide,by decide⟩,rfl,dQ _,λl hl=>?_⟩⟩;intro x dx hx iV aQ;refine⟨x,dx,_,rfl,rfl,ao,λH2 h2 k2=>Ŕ⟩;have s1:ai H (Ϛ à):=aK hl;have s2:=ai.made hx iV k2;have s3:=s1.trans s2;have hlx:l≠x:=λz=>by rw[←z,ao] at hx;cases hx
  have je:=s2 _ _ ao;refine⟨p.gl,_,_,rfl,rfl,s3 _ _ L.gl,?_,?_⟩
  ·rw[aA];unfold eK.m at cJ;simp only[aA] at cJ;exact gQ Ä
  ·have e1:eE C p=[(p.a,.ins C.P p.dx (lV p)),(p.cl,.lst Ō)]++(p.gl,.lst (p.ak.map λg=>V.ref g.a))::p.ak.flatMap Åi:=rfl;have e2:eE C {p with ak:=p.ak++[⟨x,dx,l,decide (n%2=1),decide (n/2=1),[]⟩]}=[(p.a,.ins C.P p.dx (lV p)),(p.cl,.lst Ō)]++(p.gl,.lst ((p.ak++[(⟨x,dx,l,decide (n%2=1),decide (n/2=1),[]⟩:cg)]).map λg=>V.ref g.a))::(p.ak.flatMap Åi++[(x,.ins C.G dx (pC ⟨x,dx,l,decide (n%2=1),decide (n/2=1),[]⟩)),(l,.lst [])]):=by
    show(p.a,HO.ins C.P p.dx (lV p))::(p.cl,HO.lst Ō)::(p.gl,_)::(p.ak++[_]).flatMap Åi=_;rw[Ac];rfl
   have Kw:=Bl L Æa;have Kx:=Bl L hl;have Et:p.gl∈(eE C p).map (·.1):=by unfold eE;simp
   have Ky:x≠p.gl:=λz=>Kw Ç;have y6:l≠p.gl:=λz=>Kx Ç;refine k _ {p with ak:=p.ak++[⟨x,dx,l,decide (n%2=1),decide (n/2=1),[]⟩]} rfl ?_ Áf Âh Ċ
   ·unfold eK.m qD;rw[bV];rfl
   ·rw[e2];refine Kr (H:=H) (by assumption) (by rw[←e1];exact R.nd) (λc u e hc=>by rw[au hc];exact s3 _ _ e) ?_ Áp
    ·rw[ao,bV];rfl
    ·rcases bf.mp hy with rfl|hy;rotate_left;obtain rfl:=nJ.mp hy;rotate_left
     ·rw[au Ky,h2];refine cz (λz=>some (HO.ins C.G dx z)) ?_;rw[ae6,ae7];rfl
     ·rw[au y6];omega
   ·rw[e2];refine Ks (by rw[←e1];exact R.nd) (by grind) (λc hc=>?_);grind
   ·rw[au (λz=>nb Ç)];exact s3 _ _ e
   ·rw[e2] at hb;rcases Ku hb with hb|hb
    ·exact .inl hb
    ·simp at hb;rcases hb with rfl|rfl
     ·exact .inr (s0.free Æa)
     ·exact .inr (s0.free hl)
 |shape n=>
  obtain rfl:v=V.int (n:Nat):=ta;obtain⟨gm,eg,cJ⟩:=ae1 may;obtain⟨gs,g,uh,rfl⟩:=Kq eg;have hg:g∈p.ak:=by rw[uh];simp
  refine⟨_,rfl,rfl,_,rfl,ite_no (show ¬V.int ((2:Nat):Int)=V.int 0 by decide) ⟨_,rfl,rfl,_,rfl,ite_no (show ¬V.int ((2:Nat):Int)=V.int 1 by decide) Ϗ⟩⟩;refine⟨_,rfl,ŧ Åh ⟨_,rfl,p.gl,_,_,V.ref g.a,rfl,rfl,aa.of L.gl,?_,bo ((L.sub hg).ga) T.cG T.vz (vy g) ⟨.inl ⟨rfl,_,aa.of (L.sub hg).fl⟩,_,rfl,dQ _,λl hl=>?_⟩⟩⟩
  ·rw[uh,bV];exact u6 _ _
  intro x dx hx iV aQ;refine⟨x,dx,_,rfl,rfl,ao,λH2 h2 k2=>Ŕ⟩;have s1:ai H (Ϛ à):=aK hl;have s2:=ai.made hx iV k2;have s3:=s1.trans s2;have hlx:l≠x:=λz=>by rw[←z,ao] at hx;cases hx
  have je:=s2 _ _ ao;refine⟨g.l,_,_,rfl,rfl,s3 _ _ (L.sub hg).fl,?_,?_⟩
  ·rw[aA];unfold cg.m at cJ;simp only[aA] at cJ;exact gQ Ä
  ·have e1:eE C p=((p.a,.ins C.P p.dx (lV p))::(p.cl,.lst Ō)::(p.gl,.lst (p.ak.map λg=>V.ref g.a))::(gs.flatMap Åi++[(g.a,.ins C.G g.dx (pC g))]))++(g.l,.lst (g.flags.map λs=>V.ref s.a))::g.flags.flatMap (ic C):=by
    unfold eE;rw[show p.ak.flatMap Åi=gs.flatMap Åi++gh C g by simp_all];unfold gh;simp
   have e2:eE C {p with ak:=gs++[{g with flags:=g.flags++[⟨x,dx,l,n,[]⟩]}]}=((p.a,.ins C.P p.dx (lV p))::(p.cl,.lst Ō)::(p.gl,.lst (p.ak.map λg=>V.ref g.a))::(gs.flatMap Åi++[(g.a,.ins C.G g.dx (pC g))]))++(g.l,.lst ((g.flags++[(⟨x,dx,l,n,[]⟩:eC)]).map λs=>V.ref s.a))::(g.flags.flatMap (ic C)++[(x,.ins C.S dx (vx ⟨x,dx,l,n,[]⟩)),(l,.lst [])]):=by
    unfold eE;rw[Ac,uh,Sk (gs:=gs) (g:=g) (g':={g with flags:=g.flags++[⟨x,dx,l,n,[]⟩]}) rfl];simp[gh,Ac,lV,pC,ic,iv]
   have Kw:=Bl L Æa;have Kx:=Bl L hl;have Et:g.l∈(eE C p).map (·.1):=by rw[e1];simp
   have Ky:x≠g.l:=λz=>Kw Ç;have y6:l≠g.l:=λz=>Kx Ç;refine k _ {p with ak:=gs++[{g with flags:=g.flags++[⟨x,dx,l,n,[]⟩]}]} rfl ?_ Áf Âh Ċ
   ·unfold eK.m qD;simp[cg.m,eC.m,uh,Aa]
   ·rw[e2];refine Kr (H:=H) (by rw[←e1];exact L) (by rw[←e1];exact R.nd) (λc u e hc=>by rw[au hc];exact s3 _ _ e) ?_ Áp
    ·rw[ao,bV];rfl
    ·rcases bf.mp hy with rfl|hy;rotate_left;obtain rfl:=nJ.mp hy;rotate_left
     ·rw[au Ky,h2];rfl
     ·rw[au y6];omega
   ·rw[e2];refine Ks (by rw[←e1];exact R.nd) (by grind) (λc hc=>?_);simp at hc;rw[←e1];rcases hc with rfl|rfl
    ·omega
    ·omega
   ·rw[au (λz=>nb (by rw[z];exact Et))];exact s3 _ _ e
   ·rw[e2] at hb;rcases Ku hb with hb|hb
    ·exact .inl (by rw[e1];exact hb)
    ·simp at hb;rcases hb with rfl|rfl
     ·exact .inr (s0.free Æa)
     ·exact .inr (s0.free hl)
 |row l=>
  obtain⟨c,rfl,Sl,hc⟩:=ta;obtain⟨gm,sm,eg,es,cJ⟩:=ae2 may;obtain⟨gs,g,uh,rfl⟩:=Kq (show(p.ak.map cg.m).getLast?=some gm from eg);obtain⟨ss,sg,Eu,rfl⟩:=Kq (show(g.flags.map eC.m).getLast?=some sm from es);have hg:g∈p.ak:=by rw[uh];simp
  have hs:sg∈g.flags:=by rw[Eu];simp
  have Kz:=h4 l rfl;refine⟨_,rfl,rfl,_,rfl,ite_no (show ¬V.int ((3:Nat):Int)=V.int 0 by decide) ⟨_,rfl,rfl,_,rfl,ite_no (show ¬V.int ((3:Nat):Int)=V.int 1 by decide) ⟨_,rfl,rfl,_,rfl,ite_no (show ¬V.int ((3:Nat):Int)=V.int 2 by decide) ?_⟩⟩⟩;refine⟨_,rfl,ŧ Åh ⟨_,rfl,p.gl,_,_,V.ref g.a,rfl,rfl,aa.of L.gl,?_,bo ((L.sub hg).ga) T.cG T.vz (vy g) ⟨_,rfl,g.l,_,_,V.ref sg.a,rfl,rfl,aa.of (L.sub hg).fl,?_,bo (((L.sub hg).yW hs).sa) T.cS T.Ek (Ej sg) ⟨.inl ⟨rfl,_,aa.of ((L.sub hg).yW hs).sl⟩,_,rfl,sg.l,c,_,_,rfl,rfl,((L.sub hg).yW hs).sl,hc,?_,?_⟩⟩⟩⟩
  ·rw[uh,bV];exact u6 _ _
  ·rw[Eu,bV];exact u6 _ _
  ·have:sg.cells.length<16:=cJ;rw[eX,eX,Kz];exact sY (gQ Ä)
  ·have e1:eE C p=((p.a,.ins C.P p.dx (lV p))::(p.cl,.lst Ō)::(p.gl,.lst (p.ak.map λg=>V.ref g.a))::(gs.flatMap Åi++((g.a,.ins C.G g.dx (pC g))::(g.l,.lst (g.flags.map λs=>V.ref s.a))::(ss.flatMap (ic C)++[(sg.a,.ins C.S sg.dx (vx sg))]))))++(sg.l,.lst (iv sg.cells))::[]:=by
    unfold eE;rw[show p.ak.flatMap Åi=gs.flatMap Åi++gh C g by simp_all];unfold gh;rw[show g.flags.flatMap (ic C)=ss.flatMap (ic C)++ic C sg by simp_all];simp[ic]
   have e2:eE C {p with ak:=gs++[{g with flags:=ss++[{sg with cells:=sg.cells++l}]}]}=((p.a,.ins C.P p.dx (lV p))::(p.cl,.lst Ō)::(p.gl,.lst (p.ak.map λg=>V.ref g.a))::(gs.flatMap Åi++((g.a,.ins C.G g.dx (pC g))::(g.l,.lst (g.flags.map λs=>V.ref s.a))::(ss.flatMap (ic C)++[(sg.a,.ins C.S sg.dx (vx sg))]))))++(sg.l,.lst (iv (sg.cells++l)))::([]++[]):=by
    unfold eE;dsimp only;rw[Ac,uh,Sk (gs:=gs) (g:=g) (g':={g with flags:=ss++[{sg with cells:=sg.cells++l}]}) rfl,Eu,ae4 (ss:=ss) (s:=sg) (s':={sg with cells:=sg.cells++l}) rfl];simp[gh,Ac,lV,pC,ic,vx]
   have Et:sg.l∈(eE C p).map (·.1):=by rw[e1];simp
   refine k _ {p with ak:=gs++[{g with flags:=ss++[{sg with cells:=sg.cells++l}]}]} rfl ?_ Áf Âh Ċ
   ·unfold eK.m qD;dsimp only;simp[cg.m,eC.m,uh,Eu,Aa]
   ·rw[e2];refine Kr (H:=H) (by rw[←e1];exact L) (by rw[←e1];exact R.nd) (λc u e hc=>by rw[au hc];exact e) ?_ (λy hy=>absurd hy Â);rw[ao];simp
   ·rw[e2];exact Ks (by rw[←e1];exact R.nd) Â Â
   ·rw[au (λz=>nb (by rw[z];exact Et))];omega
   ·rw[e2] at hb;rcases Ku hb with hb|hb
    ·exact .inl (by rw[e1];exact hb)
    ·exact absurd hb Â
end
def KA(k l:Nat):List (Str×V):=[("kind",.int (k:Nat)),("line",.int (l:Nat))]
structure Ew(K:FR)(mg:MG)(C N:Addr):Prop where
 c:XC K C N
 afc:DJ K N "kind"
 afd:DJ K N "line"
 mC:mg "NoPlate"=some ý
 keep:PySem.W.keepIn K ý=true
inductive KB(C:Addr)(vs:aq)(H:Hp)(Q:VK)(E':XK):Prop
 |mk (x:Addr) (k l:Nat) (_:vs=[.ref x,.int (k:Nat),.int (l:Nat)]) (_:H x=some Ŏ) (_:∀H' d,H' x=some (exc C (some d) .none x)→d≠x→H' d=some (ub d (KA k l))→(∀b o,H b=some o→b≠x→H' b=some o)→Q .aJ H')
def So(P:Pg)(w:Wd)(K:FR)(mg:MG)(base:Heap)(C N:Addr):Prop:=
 ∃f fd,Ew K mg C N∧PySem.W.nsIn K N "__init__"=some Áw∧PySem.W.isFn K ą=true∧Ê aE 1 f fd ["self","kind","line"] (KB C)∧L2.Binds K fd ["self","kind","line"] []
section
variable{P:Pg}{w:Wd}{K:FR}{mg:MG}{base:Heap}{C:Cs}{CN N:Addr}
def afe:typeOf (.type "Exception")=pure (.type "type"):=by rfl
def aff:bC ["self","kind","line"] ["self","kind","line"] (a7 Ju):=cu
def afg(F:br K "__init__" "NoPlate.__init__" Ju f fd)(T:Ew K mg CN N)(tE:mg "Exception"=none)(hf:PySem.W.findCls K (.type "Exception") (.type "type") "__init__"=some (.val (.builtin "Exception.__init__"))):
  a8 P w K mg base aE 1 f fd ["self","kind","line"] (KB CN):=by
 refine F.ok aff À;obtain⟨x,n,l,rfl,h1,k⟩:=h;refine⟨_,aB (rE (ab7 Ò tE hf ñ afe È È)) (aB (aca Ù á rfl) (aD (acd Ù è rfl))),?_⟩;refine⟨_,rfl,x,CN,N,_,_,rfl,h1,T.c,_,rfl,_,rfl,x,CN,N,_,rfl,h1,T.c,T.afc,λd hd aQ=>?_⟩;refine⟨_,rfl,_,rfl,x,CN,N,d,_,_,rfl,(by rw[au Åb];exact ao),aQ,ao,(by show 1<1000;decide),T.c,T.afd,?_⟩;refine k _ d (by rw[au Åb,au Åb];exact ao) aQ ?_ λb o e hb=>?_
 ·rw[ao];rfl
 ·have Sq:=eN e hd;rw[au Sq,au Sq,au hb];exact e
def lY:Nat→gi→dc→Except (Nat×Nat) gi
 |_,m,[]=>.ok m
 |i,m,w::r=>match jN w with
  |none=>.error (1,i)
  |some t=>if dj m t.sort=true then lY (i+1) (qD m t) r else .error (2,i)
def gR(bA:LI):Except (Nat×Nat) gi:=match lY 0 ⟨0,[],[]⟩ (JM.aI 10 bA).dropLast with
 |.error e=>.error e
 |.ok m=>if bA=[]∨(JM.aI 10 bA).getLastD []≠[] then .error (1,(JM.aI 10 bA).dropLast.length) else if pH m=true then .ok m else .error (2,(JM.aI 10 bA).dropLast.length)
inductive Sr(K:FR)(C:Cs)(CN:Addr)(vs:aq)(H:Hp)(Q:VK)(E:XK):Prop
 |mk (ap:Addr) (bA:LI) (_:vs=[.ref ap]) (_:ß ap (iv bA)) (_:bA.length≤66000) (_:(∀m,gR bA=.ok m→∀H' p,ai H H'→Lies H' Ác→p.m=m→Q Âq H')) (_:∀e,gR bA=.error e→∀H' d,ai H H'→H' d=some (ub d (KA e.1 e.2))→E (.ref CN) (some d) H')
def Ss{w l:LI}(h:jM w=some l):l.length=4:=by
 unfold jM at h;split at h
 ·rename_i e;unfold jx at h;grind
 ·cases h
def afh{w l:LI}(h:jN w=some (.row l)):l.length=4:=by
 unfold jN at h;split at h
 ·cases h
 ·split at h
  ·simp_all
  ·split at h
   ·simp_all
   ·cases e:jM w with
    |none=>simp_all
    |some l'=>
     rw[e] at h;have z:=aO h;injection z with z;subst z;exact Ss e
def drop_cons{α:Type}{l:List α}{i:Nat}{x:α}(h:l[i]? =some x):l.drop i=x::l.drop (i+1):=by
 obtain⟨hl,e⟩:=bH.mp h;rw[List.drop_eq_getElem_cons hl,e]
theorem d9.get{H:Hp}:∀{qs:LA}{L:dc}{i:Nat}{q:Addr},d9 H qs L→qs[i]? =some q→∃l,L[i]? =some l∧H q=some ņ:=by
 intro qs L i q h0;induction h0 generalizing i with
 |nil=>intro h;simp at h
 |cons r t ih=>
  intro h;cases i with
  |zero=>
   have e:=aO h;subst e;exact⟨_,rfl,r⟩
  |succ i=>exact ih h
def y8:bC ["text","lines","rest","plate","number","line","told"] ["text"] (a7 Jv):=cu
inductive RpI(C:Cs)(ap pl qr x:Addr)(Hb:Hp)(L:dc)(i:Nat)(σ:L2.St)(H':Hp):Prop
 |mk (p:eK) (v4 v5 v6:Option V) (_:σ=[some Èk,some (.ref pl),some (.ref qr),some Ū,v4,v5,v6]) (_:ai Hb H') (_:Rep C H' p) (_:p.a=x) (_:(∀b,b∈(eE C p).map (·.1)→Hb b=none)) (_:lY 0 ⟨0,[],[]⟩ L=lY i p.m (L.drop i))
def afj{f:Addr}{fd:FD}(F:br K "read_plate" "read_plate" Jv f fd)(T:lW K C)(tL:mg "len"=none)(tE:mg "enumerate"=none)(cL:Cn mg "LINE_END" (.int 10))(cN:Cn mg "NO_SUCH_LINE" Ŝ)(cW:Cn mg "WRONG_PLACE" (.int 2))(dC:Å 1 "cut" ["text","mark"] (vw K)) (dP:ÿ "Plate" C.P ["side","classes","glimpses"]) (dN:So P w K mg base CN N) (dR:Å 5 "read_line" ["line"] (Sa K)) (dM:Å 3 "may_stand" ["plate","sort"] (Sg C))(dU:Å 3 "put" ["plate","sort","told"] (Sj C)) (dW:Å 3 "has_whole_hoists" ["plate"] (pI C pH)):Ê ē 6 f fd ["text"] (Sr K C CN):=by
 obtain⟨fN,Su,TN,iN,Ey,GN,bN⟩:=dN;refine F.qw y8 À;obtain⟨ap,bA,rfl,hT,hl,k1,k2⟩:=h;have rT:dw 2 _:=hr.mono Ø;refine⟨_,aB (cq 1 y8.nd (bz (hr:=hr) dC (ae Ù (ae (b7 cL) ag))))
  (aB (cq 2 y8.nd (PZ PySem.F.plainAttrs_list PySem.F.slot_list_pop PySem.F.type_list_pop P1 á))
  (aB (cq 3 y8.nd (pF dP hr (ae bh (ae ĳ Äh))))
  (aB (mO (QO w8) rfl (ku Ò tE Œ) (iB 4 5 y8.nd)
   (aB (cq 6 y8.nd (bz (hr:=hr) dR Ť))
   (aB (dq (nU (qg Ãe)) (aD (jL hr.hd TN.c (į bN .nil rO (ae (b7 cN) ϣ)))) d7)
   (aB (dq (oW (jr (bz (hr:=hr) dM (ae õ (ae Åj ag))))) (aD (jL hr.hd TN.c (į bN .nil rO (ae (b7 cW) ϣ)))) d7)
   (aD (rE (bz (hr:=hr) dU (ae õ (ae Åj (ae Åj ag))))))))))
  (aB (dq (PW.pt (pw_or (cI ϫ Ù ĳ (bT _)) (pw_or1 (cI (A9 hr.units) è ĳ (bT _)))))
   (aD (jL hr.hd TN.c (į bN .nil rO (ae (b7 cN) (ae ù ag))))) d7)
  (aB (dq (oW (jr (bz (hr:=hr) dW Ĳ)))
   (aD (jL hr.hd TN.c (į bN .nil rO (ae (b7 cW) (ae ù ag))))) d7)
  (aD (aZ õ))))))),?_⟩
 refine⟨_,rfl,ap,10,bA,rfl,hT,gW hl Ø,λH1 pl qs hN hp nd np hf=>?_⟩;obtain⟨gB,qr,rfl,ui,Bm⟩:=d9.last hp (JM.lp 10 bA);have s1:=hN.1;refine⟨_,rfl,.inl ⟨rfl,_,aa.of hN.2.2⟩,pl,_,V.ref qr,rfl,rfl,hN.2.2,?_,?_⟩
 ·simp
 have eL:(((gB++[qr]).map V.ref).dropLast)=gB.map V.ref:=by rw[bV];simp
 rw[eL];have KC:=λz=>np (z8 _ z);have KD:qr≠pl:=λz=>np Ç;generalize hL:(JM.aI 10 bA).dropLast=L at ui;generalize hRest:(JM.aI 10 bA).getLastD []=rst at Bm;have sb:ai H ŋ:=fh s1 hN.2.1;have y9:d9 ŋ gB L:=d9.upd ui KC;have rb:(ŋ) qr=some (.lst (iv rst)):=by rw[au KD];exact Bm
 have lb:(ŋ) pl=some ú:=ao;generalize ŋ=Hb at sb y9 rb lb;have apw:L.length≤66000:=by
  rw[←hL,Xs];have:=Ef 10 bA;omega
 have Sv:=y9.len;have afk:∀w∈L,w.length≤100000:=λw hw=>by
  have:=xk 10 bA w (by rw[←hL] at hw;exact Ad _ hw);omega
 have pM:gR bA=match lY 0 ⟨0,[],[]⟩ L with
   |.error e=>.error e
   |.ok m=>if bA=[]∨rst≠[] then .error (1,L.length) else if pH m=true then .ok m else .error (2,L.length):=by
  unfold gR;rw[hL,hRest]
 have Bn:∀(kk ll:Nat)(Hx:Hp),gR bA=.error (kk,ll)→ai H Hx→([V.int (kk:Nat),V.int (ll:Nat)]:aq).length≤sizeLine∧∀x,Hx x=none→
   KB CN (V.ref x::([V.int (kk:Nat),V.int (ll:Nat)]++[])) (upd Hx x (exc CN none .none x)) (λv H2=>v=.aJ∧∃a od,V.ref x=V.ref a∧H2 a=some (exc CN od .none a)∧(∀d,od=some d→d≠a)∧E (.ref CN) od H2) E0:=λkk ll Hx e sx=>
  ⟨(by show 2≤sizeLine;decide),λx hx=>⟨x,kk,ll,rfl,ao,λH5 d h1 aQ h2 kp=>⟨rfl,x,some d,rfl,h1,λd' e'=>(by cases e';exact aQ),k2 _ e H5 d (λb o eb=>kp b o (by rw[au (eN (sx _ _ eb) hx)];exact sx _ _ eb) (eN (sx _ _ eb) hx)) h2⟩⟩⟩
 refine⟨dQ _,λl1 eW=>⟨dQ _,λl2 je=>?_⟩⟩;intro x dx hx iV Sw;refine⟨x,dx,_,rfl,rfl,ao,λH4 h4 k4=>Ŕ⟩;have t1:ai Hb (upd Hb l1 à):=aK eW;have t2:ai Hb (upd (upd Hb l1 à) l2 à):=fh t1 (t1.free je);have t4:=ai.made hx iV k4;have t5:=t2.trans t4;have Sx:l1≠l2:=λz=>by rw[←z,ao] at je;cases je
 have nx2:l2≠x:=λz=>by rw[←z,ao] at hx;cases hx
 have nx1:l1≠x:=λz=>by rw[←z,au Sx,ao] at hx;cases hx
 have R0:Rep C H4 ⟨x,dx,l1,l2,0,[],[]⟩:=by
  refine⟨λy hy=>?_,?_⟩
  ·have hy:=hy;rcases bf.mp hy with rfl|hy
   ·exact h4
   ·rcases bf.mp hy with rfl|hy
    ·exact t4 _ _ (by rw[au Sx];exact ao)
    ·obtain rfl:=nJ.mp hy;exact t4 _ _ ao
  ·show([x,l1,l2]:LA).Nodup;grind
 have F0:∀b,b∈(eE C ⟨x,dx,l1,l2,0,[],[]⟩).map (·.1)→Hb b=none:=λb hb=>by
  have hb:b=x∨b=l1∨b=l2:=by simpa [eE] using hb
  rcases hb with rfl|rfl|rfl
  ·exact t2.free hx
  ·omega
  ·exact t1.free je
 refine⟨_,rfl,pl,_,rfl,aa.of (t5 _ _ lb),acs (K:=K) (a:=pl) (xs:=gB.map V.ref)
  (RpI C ap pl qr x Hb L)
  ⟨⟨x,dx,l1,l2,0,[],[]⟩,none,none,none,rfl,t5,R0,rfl,F0,rfl⟩ (λi σ H' _ h=>(by obtain⟨_,_,_,_,_,sx⟩:=h;exact aa.of (sx _ _ lb))) ?_ ?_⟩
 ·rintro i y TT σ H' hi ⟨p,v4,v5,v6,rfl,sx,R,y4,o6,rV⟩ vi;obtain⟨q,hq,rfl⟩:∃q,gB[i]? =some q∧y=V.ref q:=by
   grind
  obtain⟨wd,hw,hqw⟩:=d9.get y9 hq;have sT:=fh (o:=.tup [.int (i:Nat),.ref q]) sx (sx.free vi);have Sy:ai H' (upd H' TT (.tup [.int (i:Nat),.ref q])):=aK vi;rw[drop_cons hw] at rV;refine⟨TT,_,rfl,bu.of ao,rfl,_,_,rfl,_,_,rfl,rfl,_,rfl,q,wd,rfl,aa.of (sT _ _ hqw),afk wd (bY hw),λH3 v s3 Ez=>?_⟩;have Sz:=sT.trans s3;have s3H:=sb.trans Sz;cases za:jN wd with
  |none=>
   rw[za] at Ez;obtain rfl:v=.aJ:=Ez;have er:gR bA=.error (1,i):=by
    rw[pM,rV];unfold lY;simp_all
   exact⟨_,rfl,_,rfl,ite_yes rfl ⟨_,rfl,Bn 1 i H3 er s3H⟩⟩
  |some t=>
   rw[za] at Ez;obtain⟨q2,y2,rfl,xg,KF,ta⟩:=Ez;have L3:=R.lies.same (Sy.trans s3);refine⟨_,rfl,_,rfl,ite_no Â ⟨_,rfl,_,rfl,q2,_,0,_,rfl,rfl,bu.of KF,rfl,p,t.sort,Ç,L3,λH5 s5=>Ď⟩⟩;have SA:=Sz.trans s5;have s5H:=sb.trans SA;refine a9 (λhm=>?_) (λhm=>?_)
   ·simp at hm;have er:gR bA=.error (2,i):=by
     rw[pM,rV];unfold lY;simp_all
    exact⟨_,rfl,Bn 2 i H5 er s5H⟩
   ·simp at hm;have R5:Rep C H5 p:=⟨L3.same s5,R.nd⟩;refine⟨_,rfl,_,rfl,q2,_,0,_,rfl,rfl,bu.of (s5 _ _ KF),rfl,_,rfl,q2,_,1,_,rfl,rfl,bu.of (s5 _ _ KF),rfl,p,t,y2,upd H' TT (.tup [.int (i:Nat),.ref q]),(by rw[y4];rfl),R5,s3.trans s5,R.lies.same Sy,ta.same s5,
     λl e=>afh (by rw[za,e]),hm,λH6 p' e1 e2 R6 kf kn=>?_⟩
    refine⟨p',_,_,_,rfl,λb o eb=>kf b o (SA _ _ eb) (λz=>by grind),R6,e1.trans y4,λb hb=>?_,?_⟩
    ·rcases kn b hb with z|z
     ·grind
     ·exact sT.free z
    ·rw[rV,e2];rw[show lY i p.m (wd::L.drop (i+1))=(match jN wd with
      |none=>.error (1,i)
      |some t=>if dj p.m t.sort=true then lY (i+1) (qD p.m t) (L.drop (i+1)) else .error (2,i)) from rfl,za]
     simp_all
 ·rintro σ H' ⟨p,v4,v5,v6,rfl,sx,R,y4,o6,rV⟩;have sH:=sb.trans sx;rw[aA,Sv,List.drop_length] at rV;have rV:lY 0 ⟨0,[],[]⟩ L=.ok p.m:=rV;rw[rV] at pM;dsimp only at pM;have KG:(((gB.map V.ref).length:Nat):Int)=((L.length:Nat):Int):=by rw[aA,Sv]
  refine⟨_,rfl,dQ _,λe1 n1=>?_⟩;have EA:=fh (o:=.lst []) sH (sH.free n1);have KH:=fh (o:=.lst []) sx (sx.free n1);refine⟨ap,e1,_,rfl,rfl,EA.seq hT,aa.of ao,_,rfl,a9 Í Í⟩
  ·have hc:bA=[]:=by
    simp_all
   have er:gR bA=.error (1,L.length):=by rw[pM,af (.inl hc)]
   refine⟨_,rfl,pl,_,rfl,.inl (aa.of (KH _ _ lb)),?_⟩;rw[KG];exact Bn 1 L.length _ er EA
  ·have hc:¬bA=[]:=λz=>hc Ç;refine⟨_,rfl,dQ _,λe2 n2=>?_⟩;have KI:=fh (o:=.lst []) EA (EA.free n2);have KJ:=fh (o:=.lst []) KH (KH.free n2);refine⟨qr,e2,_,rfl,rfl,aa.of (KJ _ _ rb),aa.of ao,_,rfl,a9 Ė Ė⟩
   ·have hd:rst≠[]:=λz=>by rw[z] at hd;exact absurd hd Ø
    have er:gR bA=.error (1,L.length):=by rw[pM,af (.inr hd)]
    refine⟨_,rfl,pl,_,rfl,.inl (aa.of (KJ _ _ lb)),?_⟩;rw[KG];exact Bn 1 L.length _ er KI
   ·have hd:rst=[]:=by
     simp_all
    have AH:¬(bA=[]∨rst≠[]):=λz=>z.elim hc (λz=>z hd);rw[ah AH] at pM;have Lx:Lies _ Ác:=(R.lies.same (aK (o:=.lst []) n1)).same (aK (o:=.lst []) n2);refine⟨_,rfl,p,Ç,Lx,λH3 s3=>Ď⟩;refine a9 (λhw=>?_) (λhw=>?_)
    ·simp at hw;have er:gR bA=.error (2,L.length):=by rw[pM,hw];rfl
     refine⟨_,rfl,pl,_,rfl,.inl (aa.of (s3 _ _ (KJ _ _ lb))),?_⟩;rw[KG];exact Bn 2 L.length _ er (KI.trans s3)
    ·simp at hw;rw[af hw] at pM;refine Ď;have q:=k1 p.m pM H3 p (KI.trans s3) (Lx.same s3) rfl;simp_all
end
def zb:Str:="ABCDEFGHIJKLMNOPQRSTUVWXYZ0123456789"
def iD(part:LI):Bool:=decide (1≤part.length)&&(decide (part.length≤8)&&part.all λb=>(codes zb).contains b)
inductive KL(K:FR)(vs:aq)(H:Hp)(Q:VK)(E':XK):Prop
 |mk (ap:Addr) (part:LI) (_:vs=[.ref ap]) (_:ß ap Âs) (_:part.length≤100000) (_:∀H',ai H H'→Q (.bl (iD part)) H')
section
variable{P:Pg}{w:Wd}{K:FR}{mg:MG}{base:Heap}
def afo:bC ["part"] ["part"] (a7 Jk):=cu
def afp(F:br K "is_name" "is_name" Jk f fd)(tL:mg "len"=none)(cL:Cn mg "LONGEST_NAME" (.int 8))(cN:Cn mg "NAME_SIGNS" (.str zb))(dP:Å 2 "places_in" ["signs","part"] (Ei K)):Ê aE 3 f fd ["part"] (KL K):=by
 refine F.ok afo À;obtain⟨ap,part,rfl,hP,hl,k⟩:=h;refine⟨_,aD (aZ (tK (Po wI wI bh Ă (b7 cL))
  (rq (O4 (Hf (bz (hr:=hr) dP (ae (b7 cN) ñ))))))),?_⟩
 have e1:decide ((1:Int)≤(((iv part).length:Nat):Int))=decide (1≤part.length):=by
  grind
 have e2:decide ((((iv part).length:Nat):Int)≤8)=decide (part.length≤8):=by
  grind
 have q:=k;unfold iD at q;refine⟨_,rfl,ap,_,rfl,.inl hP,_,_,rfl,rfl,_,rfl,?_⟩;rw[e1];refine a9 Í Í
 ·refine⟨_,_,rfl,rfl,_,rfl,?_⟩;rw[e2];refine a9 Ė Ė
  ·rw[hc,hd,lF,lF] at q;refine⟨_,rfl,zb,ap,part,rfl,by decide,hP,hl,λz H' s1=>?_,λl z H' p hN=>?_⟩
   ·have q:=q _ s1;unfold jx at z;grind
   ·have q:=q _ hN.1;unfold jx at z;grind
  ·have hd:decide (part.length≤8)=false:=by simpa using hd
   rw[hd,kW,yc] at q;exact q _ Ÿ
 ·have hc:decide (1≤part.length)=false:=by simpa using hc
  rw[hc,kW] at q;exact⟨_,rfl,q _ Ÿ⟩
def fc(t:LI)(line:LI):Option LI:=match JM.aI 32 line with
 |[a,b]=>if a=t∧iD b=true then some b else none
 |_=>none
inductive KM(K:FR)(vs:aq)(H:Hp)(Q:VK)(E':XK):Prop
 |mk (x:Str) (ap:Addr) (line:LI) (_:vs=[.str x,.ref ap]) (_:x.cps.size≤100000) (_:ß ap Åo) (_:line.length≤100000) (_:∀H' v,ai H H'→LstAt H H' (fc Ş line) v→Q v H')
theorem afq(h:l.length=2):∃a b,l=[a,b]:=by
 match l,h with
 |[a,b],_=>exact⟨a,b,rfl⟩
def SB:bC ["title","line","words"] ["title","line"] (a7 Jl):=cu
def afr(F:br K "name_behind" "name_behind" Jl f fd)(tL:mg "len"=none)(cB:Cn mg "BLANK" År)(dC:Å 1 "cut" ["text","mark"] (vw K)) (dS:Å 1 "spelled" ["written"] Bh) (dN:Å 3 "is_name" ["part"] (KL K)):
  a8 P w K mg base aE 4 f fd ["title","line"] (KM K):=by
 refine F.ok SB À;obtain⟨x,ap,line,rfl,hx,hP,hl,k⟩:=h;have ug:dw 1 _:=hr.mono Ø;refine⟨_,aB (cq 2 SB.nd (bz (hr:=ug) dC (ae á Ϯ)))
  (aB (dq (PW.pt (pw_or (cI u0 ċ bh (bT _))
    (pw_or (cI (Ra hr.units) Àm (bz (hr:=ug) dS ñ) (bT _))
    (pw_or1 (oW (jr (bz (hr:=hr) dN (ae Àm ag)))))))) Ź d7)
  (aD (aZ Àm))),?_⟩
 refine⟨_,rfl,ap,32,line,rfl,hP,hl,λH1 p qs hN hp nd np hf=>?_⟩;have cJ:((qs.map V.ref).length:Int)=((JM.aI 32 line).length:Nat):=by rw[aA,hp.len]
 have s1:=hN.1;refine⟨_,rfl,p,_,rfl,.inl (aa.of hN.2.2),rfl,_,rfl,a9 Í Í⟩
 ·refine k H1 .aJ s1 ?_;have:fc Ş line=none:=by
   unfold fc;grind
  rw[this];rfl
 ·have h2:(JM.aI 32 line).length=2:=by
   grind
  obtain⟨a,b,e2⟩:=afq h2;rw[e2] at hp;have en:fc Ş line=if a=codes x∧iD b=true then some b else none:=by unfold fc;rw[e2]
  have Kl:∀w∈[a,b],w.length≤100000:=λw hw=>gW (xk 32 line w Ç) hl;obtain⟨qa,qb,rfl⟩:∃x y,qs=[x,y]:=by
   have:=hp.len
   match qs,this with
   |[x,y],_=>exact⟨x,y,rfl⟩
  cases hp with
  |cons ha hp=>
   cases hp with
   |cons hb hp=>
    refine⟨_,rfl,p,_,0,V.ref qa,rfl,rfl,aa.of hN.2.2,rfl,_,rfl,x,rfl,hx,λH2 p2 lX=>?_⟩;have s2:=s1.trans lX.1;refine⟨qa,p2,a,codes x,rfl,rfl,aa.of (lX.1 _ _ ha),aa.of lX.2.2,_,rfl,a9 Ė Ė⟩
    ·refine k H2 .aJ s2 ?_;simp at hd;rw[en,ah (λz=>hd z.1)];rfl
    ·simp at hd;refine⟨_,rfl,p,_,1,V.ref qb,rfl,rfl,aa.of (lX.1 _ _ hN.2.2),rfl,qb,b,rfl,aa.of (lX.1 _ _ hb),Kl b Â,λH3 s3=>Ď⟩;refine a9 (λhn=>?_) (λhn=>?_)
     ·have hn:¬iD b=true:=by simpa using hn
      refine k H3 .aJ ī ?_;rw[en,ah (λz=>hn z.2)];rfl
     ·simp at hn;refine⟨_,rfl,p,_,1,V.ref qb,rfl,rfl,aa.of (s3 _ _ (lX.1 _ _ hN.2.2)),rfl,?_⟩;refine k H3 (.ref qb) ī ?_;rw[en,af ⟨hd,hn⟩];exact⟨qb,rfl,hf qb Â,s3 _ _ (lX.1 _ _ hb)⟩
def jz(bA:LI):Option dc:=if (JM.aI 10 bA).getLastD []=[] then some (JM.aI 10 bA).dropLast else none
def afs(H H':Hp):Option dc→V→Prop
 |none,v=>v=.aJ
 |some L,v=>∃p qs,v=.ref p∧H p=none∧H' p=some Č∧d9 H' qs L∧(∀q∈qs,H q=none)
inductive KN(K:FR)(vs:aq)(H:Hp)(Q:VK)(E':XK):Prop
 |mk (ap:Addr) (bA:LI) (_:vs=[.ref ap]) (_:ß ap (iv bA)) (_:bA.length≤100000) (_:∀H' v,ai H H'→afs H H' (jz bA) v→Q v H')
def KO:bC ["text","lines","rest"] ["text"] (a7 Jg):=cu
def aft(F:br K "whole_lines" "whole_lines" Jg f fd)(cL:Cn mg "LINE_END" (.int 10))(dC:Å 1 "cut" ["text","mark"] (vw K)):
  a8 P w K mg base aE 2 f fd ["text"] (KN K):=by
 refine F.ok KO À;obtain⟨ap,bA,rfl,hP,hl,k⟩:=h;refine⟨_,aB (cq 1 KO.nd (bz (hr:=hr) dC (ae Ù (ae (b7 cL) ag))))
  (aB (cq 2 KO.nd (PZ PySem.F.plainAttrs_list PySem.F.slot_list_pop PySem.F.type_list_pop P1 á))
  (aD (aZ (rB (cI ϫ è ĳ (bT _)) á qf)))),?_⟩
 refine⟨_,rfl,ap,10,bA,rfl,hP,hl,λH1 pl qs hN hp nd np hf=>?_⟩;obtain⟨gB,qr,rfl,ui,Bm⟩:=d9.last hp (JM.lp 10 bA);have s1:=hN.1;refine⟨_,rfl,.inl ⟨rfl,_,aa.of hN.2.2⟩,pl,_,V.ref qr,rfl,rfl,hN.2.2,?_,?_⟩
 ·simp
 have eL:(((gB++[qr]).map V.ref).dropLast)=gB.map V.ref:=by rw[bV];simp
 rw[eL];have KC:=λz=>np (z8 _ z);have KD:qr≠pl:=λz=>np Ç;have sb:ai H ŋ:=fh s1 hN.2.1;have y9:=d9.upd (o:=.lst (gB.map V.ref)) ui KC;have rb:(ŋ) qr=some (.lst (iv ((JM.aI 10 bA).getLastD []))):=by rw[au KD];exact Bm
 have lb:(ŋ) pl=some ú:=ao;generalize ŋ=Hb at sb y9 rb lb;refine⟨_,rfl,dQ _,λe1 n1=>?_⟩;have s2:=fh (o:=.lst []) sb (sb.free n1);have KP:ai Hb (upd Hb e1 à):=aK n1;refine⟨qr,e1,_,rfl,rfl,aa.of (KP _ _ rb),aa.of ao,_,rfl,a9 Í Í⟩
 ·have hc:(JM.aI 10 bA).getLastD []=[]:=by simpa using hc
  refine⟨_,rfl,k _ _ s2 ?_⟩;unfold jz;rw[af hc];exact⟨pl,gB,rfl,hN.2.1,KP _ _ lb,y9.same KP,λq hq=>hf q (z8 _ hq)⟩
 ·have hc:¬(JM.aI 10 bA).getLastD []=[]:=by simpa using hc
  refine k _ _ s2 ?_;unfold jz;rw[ah hc];rfl
end
structure gS where
 role:Nat
 name:LI
 jP:Int
 copies:Int
 shape:Nat
 look:LI
abbrev aF:=List gS
structure az where
 a:Addr
 dx:Addr
 nm:Addr
 lk:Addr
 m:gS
def vA(k:az):List (Str×V):=[("role",.int (k.m.role:Nat)),("name",.ref k.nm),("which",.int k.m.jP),("copies",.int k.m.copies),("shape",.int (k.m.shape:Nat)),("look",.ref k.lk)]
def jQ(C:Addr)(k:az):jg:=[(k.a,.ins C k.dx (vA k)),(k.nm,.lst (iv k.m.name)),(k.lk,.lst (iv k.m.look))]
def vB(k:az):(vA k).lookup ("role":Str)=some (.int (k.m.role:Nat)):=ip
def SC(k:az):(vA k).lookup ("name":Str)=some (.ref k.nm):=(fO È).trans ip
def KQ(k:az):(vA k).lookup ("which":Str)=some (.int k.m.jP):=(fO È).trans ((fO È).trans ip)
def KR(k:az):(vA k).lookup ("copies":Str)=some (.int k.m.copies):=(fO È).trans ((fO È).trans ((fO È).trans ip))
def SD(k:az):(vA k).lookup ("shape":Str)=some (.int (k.m.shape:Nat)):=(fO È).trans ((fO È).trans ((fO È).trans ((fO È).trans ip)))
def SE(k:az):(vA k).lookup ("look":Str)=some (.ref k.lk):=(fO È).trans ((fO È).trans ((fO È).trans ((fO È).trans ((fO È).trans ip))))
structure uj where
 a:Addr
 dx:Addr
 nm:Addr
 kl:Addr
 name:LI
 kinds:List az
def EB(l:uj):List (Str×V):=[("name",.ref l.nm),("kinds",.ref l.kl)]
def zc(C:Addr)(ks:List az):jg:=ks.flatMap (jQ C)
def afu(l:uj):(EB l).lookup ("name":Str)=some (.ref l.nm):=ip
def EC(l:uj):(EB l).lookup ("kinds":Str)=some (.ref l.kl):=(fO È).trans ip
structure rW(K:FR)(C:Addr):Prop where
 c:kh K C
 vC:ϧ "role"
 nName:ϧ "name"
 KS:ϧ "which"
 KU:ϧ "copies"
 yX:ϧ "shape"
 SG:ϧ "look"
structure LkT(K:FR)(C:Addr):Prop where
 c:kh K C
 nName:ϧ "name"
 apz:ϧ "kinds"
structure lZ(K:FR)(mg:MG)(x:Str)(C N:Addr):Prop where
 c:XC K C N
 m7:PySem.W.nsIn K N "__init__"=some none
 mC:mg x=some ý
 keep:PySem.W.keepIn K ý=true
section
variable{P:Pg}{w:Wd}{K:FR}{mg:MG}{base:Heap}{C CN N:Addr}
abbrev No(E:XK)(C:Addr)(H:Hp):Prop:=∀H',ai H H'→E ý none H'
def No.go(h:No E C H)(s:ai H H1):No E C H1:=λH2 s2=>h H2 (s.trans s2)
def gG(h:No E C H):∀x,H x=none→∃(a:Addr)(od:OA),V.ref x=V.ref a∧Áa Ŏ a=some (exc C od .none a)∧(∀d,od=some d→d≠a)∧E ý od (Áa Ŏ):=
 λx hx=>⟨x,none,rfl,ao,λd z=>(by cases z),h _ (aK hx)⟩
inductive KW(K:FR)(CN:Addr)(vs:aq)(H:Hp)(Q:VK)(E:XK):Prop
 |mk (ap:Addr) (part:LI) (_:vs=[.ref ap]) (_:ß ap Âs) (_:part.length≤100000) (_:(iD part=true→∀H',ai H H'→Q Èk H')) (_:(iD part=false→No E CN H))
def afw:bC ["word"] ["word"] (a7 Jn):=cu
def afx(F:br K "read_name" "read_name" Jn f fd)(X:ϊ "NoLocker" CN N)(dN:Å 3 "is_name" ["part"] (KL K)):
  a8 P w K mg base ē 4 f fd ["word"] (KW K CN):=by
 refine F.qw afw À;obtain⟨ap,part,rfl,hP,hl,k1,k2⟩:=h;refine⟨_,aB (dq (oW (jr (bz dN ñ))) Ì d7) (aD (aZ Ù)),?_⟩;refine⟨_,rfl,ap,part,rfl,hP,hl,λH1 s1=>⟨_,rfl,a9 Í Í⟩⟩
 ·exact gG ((k2 Ç).go s1)
 ·exact⟨_,rfl,k1 Ç H1 s1⟩
def iq(w:LI)(most:Int):Option Int:=match w with
 |[d]=>if d<49∨d>48+most then none else some (d-48)
 |_=>none
inductive KY(K:FR)(CN:Addr)(vs:aq)(H:Hp)(Q:VK)(E:XK):Prop
 |mk (ap:Addr) (part:LI) (most:Int) (_:vs=[.ref ap,.int most]) (_:ß ap Âs) (_:part.length≤100000) (_:(∀d,iq part most=some d→∀H',ai H H'→Q (.int d) H')) (_:(iq part most=none→No E CN H))
def afy:bC ["word","most"] ["word","most"] (a7 Jo):=cu
def afz(F:br K "read_digit" "read_digit" Jo f fd)(tL:mg "len"=none)(X:ϊ "NoLocker" CN N)(cD:Cn mg "DIGIT_ZERO" (.int 48)):
  a8 P w K mg base ē 1 f fd ["word","most"] (KY K CN):=by
 refine F.qw afy À;obtain⟨ap,part,most,rfl,hP,hl,k1,k2⟩:=h;refine⟨_,aB (dq (PW.pt (pw_or (cI u0 Ă bh (bT _))
   (pw_or (cI wH Æl (eP qj (b7 cD) bh) (bT _)) (pw_or1 (cI u4 Æl (eP qj (b7 cD) á) (bT _))))))
   (Ì) d7) (aD (aZ (eP qk Æl (b7 cD)))),?_⟩
 refine⟨_,rfl,ap,_,rfl,.inl hP,rfl,_,rfl,a9 Í Í⟩
 ·have e:iq part most=none:=by
   unfold iq;grind
  exact gG (k2 e)
 ·obtain⟨d,rfl⟩:∃d,part=[d]:=by
   match part with
   |[d]=>exact⟨d,rfl⟩
   |[]=>exact absurd (by simp[iv]) hc
   |a::b::r=>
    exfalso;apply hc;simp only[iv,aA,cZ,Bool.not_eq_true',GJ];intro q;injection q with q;omega
  have e0:iq [d] most=if d<49∨d>48+most then none else some (d-48):=rfl;refine⟨_,rfl,ap,_,0,V.int d,rfl,rfl,hP,rfl,_,_,rfl,rfl,_,_,rfl,rfl,_,rfl,a9 š š⟩
  ·simp at h1;exact gG (k2 Ç)
  ·simp at h1;refine⟨_,rfl,ap,_,0,V.int d,rfl,rfl,hP,rfl,_,rfl,_,_,rfl,rfl,_,_,rfl,rfl,_,rfl,a9 Áh Áh⟩
   ·simp at h2;exact gG (k2 Ç)
   ·simp at h2;exact⟨_,rfl,ap,_,0,V.int d,rfl,rfl,hP,rfl,_,_,rfl,rfl,(k1 _ Ç H Ÿ)⟩
end
def vD{C:Addr}{ns:LS}{as:aq}{H1:Hp}{Q:VK}{E:XK}(hl:as.length=ns.length)(h:∀x dx H',H1 x=none→H1 dx=none→dx≠x→H' x=some (.ins C dx (ns.zip as))→ai H1 H'→Q Ū H'):
  ∀x dx,H1 x=none→H1 dx=none→dx≠x→Em C ns (.ref x::(as++[])) (upd (upd H1 dx Äs) x Âc) (λv H2=>v=.aJ∧Q Ū H2) E:=λx dx hx hd aQ=>
 ⟨x,dx,as,by rw[kY],hl,ao,λH' e1 e2=>⟨rfl,h x dx H' hx hd aQ e1 λb o eb=>e2 b o (by rw[au (eN eb hx),au (eN eb hd)];exact eb) (eN eb hx)⟩⟩
theorem d9.at{H:Hp}{qs:LA}{L:dc}(h:d9 H qs L){j:Nat}(hj:j<L.length):∃q,q∈qs∧Ãw[j]? =some Èh∧H q=some (.lst (iv (L.getD j []))):=by
 induction h generalizing j with
 |nil=>exact absurd hj Â
 |cons r t ih=>
  cases j with
  |zero=>exact⟨_,by simp,rfl,r⟩
  |succ j=>
   obtain⟨q,a,b,c⟩:=ih (j:=j) (by simpa using hj);exact⟨q,aN _ a,b,c⟩
def KZ{α:Type}{xs:List α}{k:Nat}{v:α}(hk:0<k)(h:xs[xs.length-k]? =some v)(hl:k≤xs.length):o4 xs (-(k:Int))=some v:=by
 have e:rH xs.length (-(k:Int))=some (xs.length-k):=by
  unfold rH;grind
 unfold o4;simp_all
def uk:LS:=["sign","same","answer"]
def jA:LS:=["square","tails","long"]
def lr(r:Nat)(w:LI):Option LI:=if r=0 then (if iD w=true then some w else none) else some []
def qE(r:Nat)(w:LI):Option Int:=if r=1 then iq w 4 else some 0
def qF(r:Nat):Option LI→Option Int→Option Int→Option Nat→Option LI→Option gS
 |some n,some h,some c,some s,some l=>some ⟨r,n,h,c,s,l⟩
 |_,_,_,_,_=>none
def oa(ws:dc):Option gS:=match bw ϑ Àd with
 |none=>none
 |some r=>if ws.length=(if r=2 then 4 else 5) then qF r (lr r Ŋ) (qE r Ŋ) (iq (ws.getD (ws.length-3) []) 8) (bw û (ws.getD (ws.length-2) [])) (ib (ws.getD (ws.length-1) [])) else none
def iE(line:LI):Option gS:=oa (JM.aI 32 line)
def ED{b c d e}:qF r none b c d e=none:=by cases b <;> cases c <;> cases d <;> cases e <;> rfl
def EE{a c d e}:qF r a none c d e=none:=by cases a <;> cases c <;> cases d <;> cases e <;> rfl
def K0{a b d e}:qF r a b none d e=none:=by cases a <;> cases b <;> cases d <;> cases e <;> rfl
def EF{a b c e}:qF r a b c none e=none:=by cases a <;> cases b <;> cases c <;> cases e <;> rfl
def EG{a b c d}:qF r a b c d none=none:=by cases a <;> cases b <;> cases c <;> cases d <;> rfl
def zd{oO:dc}{part:LI}{r:Nat}(h:bw oO part=some r):r<oO.length:=by
 unfold bw at h;obtain⟨h1,_⟩:=OI.mp h;exact h1
inductive K1(K:FR)(CK CN:Addr)(vs:aq)(H:Hp)(Q:VK)(E:XK):Prop
 |mk (ap:Addr) (line:LI) (_:vs=[.ref ap]) (_:ß ap Åo) (_:line.length≤100000) (_:(∀m,iE line=some m→∀H' k,ai H H'→k.m=m→aU H' (jQ CK k)→(∀x∈jQ CK k,H x.1=none)→Q (.ref k.a) H')) (_:(iE line=none→No E CN H))
section
variable{P:Pg}{w:Wd}{K:FR}{mg:MG}{base:Heap}{CK CN N:Addr}
def vE:bC ["line","words","role","name","which","copies","shape","look"] ["line"] (a7 Jp):=cu
def afA(h2:σ[2]? =some (some (.int (r:Nat))))(h1:σ[1]? =some (some Ģ))(hp:ß p xs)(hx:xs[1]? =some (.ref q1))(hq:H q1=some (.lst (iv w1)))(hw:w1.length≤100000)(no:lr r w1=none→No E CN H) (yes:∀n,lr r w1=some n→∀Hn a,ai H Hn→Hn a=some (.lst (iv n))→(a=q1∨H a=none)→Q Ě Hn):
  wz (mQ (bQ nW ŗ Ãu)) (gY (KW K CN) [] E (bg (bQ ύ ϖ Äv) du)) (yx du) σ H Q:=by
 refine⟨_,h2,rfl,_,rfl,a9 Í Í⟩
 ·have e:r=0:=by
   simp_all
  unfold lr at no yes;rw[af e] at no;refine⟨_,h1,p,xs,1,.ref q1,rfl,rfl,hp,fZ (j:=1) hx,q1,w1,rfl,aa.of hq,hw,λhn H' s'=>?_,λhn=>no Ç⟩;refine yes w1 ?_ H' q1 s' (s' _ _ hq) Ą;simp_all
 ·have e:¬r=0:=by
   simp_all
  exact⟨dQ _,λx hx=>(yes [] (by unfold lr;rw[ah e]) _ x (aK hx) ao (.inr hx))⟩
def afB{K:FR}{CN:Addr}{E:XK}{σ:L2.St}{H:Hp}{Q:VK}{p:Addr}{xs:aq}{r:Nat}{q1:Addr}{w1:LI}(h2:σ[2]? =some (some (.int (r:Nat))))(h1:σ[1]? =some (some Ģ))(hp:ß p xs)(hx:xs[1]? =some (.ref q1))(hq:H q1=some (.lst (iv w1)))(hw:w1.length≤100000)(no:qE r w1=none→No E CN H) (yes:∀n,qE r w1=some n→∀Hn,ai H Hn→Q (.int n) Hn):
  wz (mQ (bQ nW ŗ Äv)) (gY (KY K CN) [] E (bg (bQ ύ ϖ Äv) (bg (tC (.int 4)) du))) Ãu σ H Q:=by
 refine⟨_,h2,rfl,_,rfl,a9 Í Í⟩
 ·have e:r=1:=by
   have:V.int (r:Nat)=V.int 1:=by simpa using hc
   injection this with this;omega
  unfold qE at no yes;rw[af e] at no yes;exact⟨_,h1,p,xs,1,.ref q1,rfl,rfl,hp,fZ (j:=1) hx,q1,w1,4,rfl,aa.of hq,hw,λd hd H' s'=>yes d hd H' s',λhn=>no hn⟩
 ·have e:¬r=1:=by
   intro z;apply hc;rw[z];simp
  exact yes 0 (by unfold qE;rw[ah e]) H Ÿ
def afC{f:Addr}{fd:FD}(F:br K "read_kind" "read_kind" Jp f fd)(tL:mg "len"=none)(X:ϊ "NoLocker" CN N)(cB:Cn mg "BLANK" År)(cR:Tn K mg "ROLES" (uk.map V.str))(cW:Tn K mg "WORDS_OF_ROLES" [.int 5,.int 5,.int 4])(cS:Cn mg "SIGN" Ň) (cSa:Cn mg "SAME" Ŝ) (cMS:Cn mg "MOST_SAME" (.int 4)) (cMC:Cn mg "MOST_COPIES" (.int 8)) (cSh:Tn K mg "SHAPES" (jA.map V.str))(dC:Å 1 "cut" ["text","mark"] (vw K)) (dA:Å 2 "place_among" ["words","part"] (Eh K)) (dN:Ć ē 4 "read_name" ["word"] (KW K CN)) (dD:Ć ē 1 "read_digit" ["word","most"] (KY K CN))(dR:Å 3 "read_colours" ["part"] (Kg K)) (dK:ÿ "Kind" CK ["role","name","which","copies","shape","look"]):Ê ē 5 f fd ["line"] (K1 K CK CN):=by
 obtain⟨aR,mR,hR⟩:=cR;obtain⟨aW,mW,hW⟩:=cW;obtain⟨SH,mSh,hSh⟩:=cSh;obtain⟨fN,Su,GN,mN,kN,bN⟩:=dN;obtain⟨fD,fdD,GD,mD,kD,bD⟩:=dD;refine F.qw vE À;obtain⟨ap,line,rfl,hP,hl,k1,k2⟩:=h;have ug:dw 1 _:=hr.mono Ø;refine⟨_,aB (cq 1 vE.nd (bz (hr:=hr) dC (ae Ù Ϯ)))
  (aB (cq 2 vE.nd (bz (hr:=hr) dA (ae (uX (v:=.ref aR) Ò mR rfl) œ)))
  (aB (dq (PW.pt (pw_or Æd (pw_or1 (cI u0 ù (cA yz (uX (v:=.ref aW) Ò mW rfl) è Õ) (bT _)))))
   (Ì) d7)
  (aB (cq 3 vE.nd (rB (cI hJ è Æo (bT _)) (lN GN hr rfl mN kN bN .nil qv œ) ĳ))
  (aB (cq 4 vE.nd (rB (cI hJ è (b7 cSa) (bT _)) (lN GD ug rfl mD kD bD .nil qv (ae (cA cQ á bh Õ) (ae (b7 cMS) ag))) bh))
  (aB (cq 5 vE.nd (lN GD ug rfl mD kD bD .nil qv (ae Åk (ae (b7 cMC) ag))))
  (aB (cq 6 vE.nd (bz (hr:=hr) dA (ae (uX (v:=.ref SH) Ò mSh rfl) (ae Åk ag))))
  (aB (cq 7 vE.nd (bz (hr:=hr) dR (ae Åk ag)))
  (aB (dq (PW.pt (pw_or (nU (qg Ãe)) (pw_or1 (nU (qg Åf))))) Ì d7)
  (aD (aZ (pF dK hr (ae è (ae õ (ae ı (ae Ãx (ae Ãe (ae Åf ag))))))))))))))))),?_⟩
 refine⟨_,rfl,ap,32,line,rfl,hP,hl,λH1 p qs hN hp nd np hf=>?_⟩;have s1:=hN.1;have hws:=λw hw=>gW (xk 32 line w hw) hl;have ek:iE line=oa (JM.aI 32 line):=rfl;have aQ:=JM.lp 32 line;generalize JM.aI 32 line=ws at hp hws ek aQ;have cJ:(qs.map V.ref).length=ws.length:=by rw[aA,hp.len]
 have EH:∀j,(ws.getD j []).length≤100000:=λj=>by
  grind
 obtain⟨q0,Bi,rX,hh0⟩:=hp.at (j:=0) (by grind);refine⟨_,rfl,p,_,0,_,rfl,rfl,aa.of hN.2.2,fZ (j:=0) rX,aR,q0,uk,ws.getD 0 [],rfl,hR H1,by decide,aa.of hh0,λH2 s2=>?_⟩;have eY:=s1.trans s2;refine⟨_,rfl,_,rfl,a9 Í Í⟩
 ·have hc:oI (bw ϑ Àd)=V.aJ:=by simpa using hc
  have e:iE line=none:=by
   rw[ek];unfold oa;cases z:bw ϑ Àd with
   |none=>rfl
   |some i=>rw[z] at hc;cases hc
  exact gG ((k2 e).go eY)
 ·have hc:¬oI (bw ϑ Àd)=V.aJ:=by simpa using hc
  obtain⟨r,er⟩:∃r,bw ϑ Àd=some r:=by
   cases z:bw ϑ Àd with
   |none=>rw[z] at hc;exact absurd rfl hc
   |some i=>simp
  have afL:=zd er;rw[er];have xn:iE line=if ws.length=(if r=2 then 4 else 5) then qF r (lr r Ŋ) (qE r Ŋ) (iq (ws.getD (ws.length-3) []) 8) (bw û (ws.getD (ws.length-2) [])) (ib (ws.getD (ws.length-1) [])) else none:=by
   rw[ek];unfold oa;simp_all
  have eat:o4 [V.int 5,V.int 5,V.int 4] (r:Int)=some (.int ((if r=2 then 4 else 5:Nat):Int)):=by
   match r,afL with
   |0,_=>rfl
   |1,_=>rfl
   |2,_=>rfl
  refine⟨_,rfl,p,_,rfl,.inl (aa.of (s2 _ _ hN.2.2)),_,rfl,aW,_,(r:Int),_,rfl,rfl,hW H2,eat,rfl,_,rfl,a9 Ė Ė⟩
  ·have hd:¬ws.length=(if r=2 then 4 else 5):=by
    grind
   exact gG ((k2 Ç).go eY)
  ·have hd:ws.length=(if r=2 then 4 else 5):=by
    grind
   rw[af hd] at xn;have h4:4≤ws.length:=by rw[hd];split <;> decide
   have rh:=hp.same s2;have l5:=s2 _ _ hN.2.2;obtain⟨q1,K2,zf,SJ⟩:=rh.at (j:=1) Ä;obtain⟨q5,hq5,hx5,hh5⟩:=rh.at (j:=ws.length-3) Ä;obtain⟨q6,hq6,SK,hh6⟩:=rh.at (j:=ws.length-2) Ä;obtain⟨q7,hq7,hx7,hh7⟩:=rh.at (j:=ws.length-1) Ä;refine afA (r:=r) (w1:=ws.getD 1 []) rfl rfl (aa.of l5) zf SJ (EH 1) (λz=>(k2 (by rw[xn,z,ED])).go eY) λnm enm H3 an s3 hn3 han=>?_;refine afB (r:=r) (w1:=ws.getD 1 []) rfl rfl (aa.of (s3 _ _ l5)) zf (s3 _ _ SJ) (EH 1) (λz=>(k2 (by rw[xn,z,EE])).go (eY.trans s3)) λwh ewh H4 s4=>?_;have n0:=(eY.trans s3).trans s4;have K3:=s3.trans s4;refine⟨_,rfl,_,rfl,p,_,_,_,rfl,rfl,aa.of (K3 _ _ l5),KZ (k:=3) Ø Ç Ä,q5,ws.getD (ws.length-3) [],8,rfl,aa.of (K3 _ _ hh5),EH _,λcp ecp H5 s5=>?_,λz=>(k2 (by rw[xn,z,K0])).go n0⟩;have vF:=n0.trans s5;have K4:=K3.trans s5;refine⟨_,rfl,_,rfl,p,_,_,_,rfl,rfl,aa.of (K4 _ _ l5),KZ (k:=2) Ø Ç Ä,SH,q6,jA,ws.getD (ws.length-2) [],rfl,hSh H5,by decide,aa.of (K4 _ _ hh6),λH6 s6=>?_⟩;have xo:=vF.trans s6;have SL:=K4.trans s6;refine⟨_,rfl,_,rfl,p,_,_,_,rfl,rfl,aa.of (SL _ _ l5),KZ (k:=1) Ø Ç Ä,q7,ws.getD (ws.length-1) [],rfl,aa.of (SL _ _ hh7),EH _,λz H7 s7=>?_,λlk elk H7 al K5=>?_⟩
   ·have no:=(k2 (by rw[xn,z,EG])).go (xo.trans s7);exact⟨_,rfl,_,rfl,a9 (λ_=>gG no) (λ_=>⟨_,rfl,_,rfl,ky (gG no)⟩)⟩
   ·have s7:=K5.1;refine⟨_,rfl,_,rfl,a9 (λhs=>?_) (λhs=>⟨_,rfl,_,rfl,mZ ?_⟩)⟩
    ·have hs:oI (bw û (ws.getD (ws.length-2) []))=V.aJ:=by simpa using hs
     have z:bw û (ws.getD (ws.length-2) [])=none:=by
      cases z:bw û (ws.getD (ws.length-2) []) with
      |none=>rfl
      |some i=>rw[z] at hs;cases hs
     exact gG ((k2 (by rw[xn,z,EF])).go (xo.trans s7))
    ·have hs:¬oI (bw û (ws.getD (ws.length-2) []))=V.aJ:=by simpa using hs
     obtain⟨sh,SM⟩:∃i,bw û (ws.getD (ws.length-2) [])=some i:=by
      cases z:bw û (ws.getD (ws.length-2) []) with
      |none=>rw[z] at hs;exact absurd rfl hs
      |some i=>simp
     rw[SM];refine⟨_,rfl,_,rfl,_,rfl,_,rfl,_,rfl,_,rfl,vD rfl λx dx H8 hx iV aQ e8 s8=>?_⟩;have zg:=xo.trans s7;have Bo:iE line=some ⟨r,nm,wh,cp,sh,lk⟩:=by rw[xn,enm,ewh,ecp,SM,elk];rfl
     refine k1 _ Bo H8 ⟨x,dx,an,al,⟨r,nm,wh,cp,sh,lk⟩⟩ (zg.trans s8) rfl Áp λy hy=>?_
     ·simp only[jQ,bf,my,mz] at hy;rcases hy with rfl|rfl|rfl
      ·exact e8
      ·exact s8 _ _ (s7 _ _ (s6 _ _ (s5 _ _ (s4 _ _ hn3))))
      ·exact s8 _ _ K5.2.2
     ·simp only[jQ,bf,my,mz] at hy;rcases hy with rfl|rfl|rfl
      ·exact zg.free hx
      ·rcases han with rfl|z
       ·simp_all
       ·exact eY.free z
      ·exact xo.free K5.2.1
end
def SN{K:FR}{H H':Hp}(s:ai H H'){vs:aq}{ds:List PyData}(x:iT K H vs ds):iT K H' vs ds:=
 iT.rec (motive_1:=λv d _=>Dp K H' v d) (motive_2:=λvs ds _=>iT K H' vs ds) .aJ .bl .int .str (λh _ r=>.lst (s.seq h) r) (λh _ r=>.tup (ai.tup s h) r) .nil (λ_ _ h r=>.cons h r) x
def afW{K:FR}{H H':Hp}(s:ai H H'){v:V}{d:PyData}(x:Dp K H v d):Dp K H' v d:=by
 cases SN s (.cons x .nil);assumption
theorem afX{K:FR}{H:Hp}{vs:aq}:∀{ds:List PyData}(n:Nat),iT K H vs ds→iT K H (vs.take n) (ds.take n):=by
 induction vs with
 |nil=>intro ds n h;cases h;cases n <;> exact .nil
 |cons v vs ih=>
  intro ds n h;cases h with
  |cons h r=>cases n with
   |zero=>exact .nil
   |succ n=>exact .cons h (ih n r)
theorem afY{K:FR}{H:Hp}{vs:aq}:∀{ds:List PyData}{i:Nat}{v:V},iT K H vs ds→vs[i]? =some v→∃d,ds[i]? =some d∧Dp K H v d:=by
 induction vs with
 |nil=>intro ds i v _ e;simp at e
 |cons v vs ih=>
  intro ds i v h e;cases h with
  |cons h r=>cases i with
   |zero=>
    have:=aO e;subst this;exact⟨_,rfl,h⟩
   |succ i=>have q:=ih (i:=i) r e;exact q
def SO(xs:aq){i:Nat}(h:i≤xs.length):nX xs none (some (i:Int))=xs.take i:=by
 unfold nX;rw[HT.PJ,HT.PK,List.drop_zero,Nat.sub_zero,Nat.min_eq_left h]
def Bp(xs:aq)(h:i≤xs.length):nX xs (some (i:Int)) none=xs.drop i:=by
 unfold nX;rw[HT.PJ,HT.PK,Nat.min_eq_left h];exact Gx Â
def um{α:Type}{ys:aq}{L:List α}{g:α→V}(hl:ys.length=L.length)(h:∀(i:Nat)(y:V)(x:α),ys[i]? =some y→L[i]? =some x→y=g x):ys=L.map g:=by
 apply wm;grind
def xp{n i:Nat}{x:Nat}(h:Èg[i]? =some x):x=i:=by
 obtain⟨h1,h2⟩:=bH.mp h;rw[aoR] at h2;exact h2.symm
def xq(ds:List PyData)(i:Nat):Bool:=(ds.take i).any λd=>PyData.eqv d (ds.getD i .none)
def og(ds:List PyData):Bool:=(List.range ds.length).any (xq ds)
inductive SQ(K:FR)(vs:aq)(H:Hp)(Q:VK)(E':XK):Prop
 |mk (p:Addr) (xs:aq) (ds:List PyData) (_:vs=[.ref p]) (_:ß p xs) (_:iT K H xs ds) (_:(∀d∈ds,SeqAt.shaped d=true)) (_:xs.length≤100000) (_:∀H',ai H H'→Q (.bl (og ds)) H')
section
variable{P:Pg}{w:Wd}{K:FR}{mg:MG}{base:Heap}{CK CN N:Addr}
def K6:bC ["things","place","thing"] ["things"] (a7 Jt):=cu
def afZ{f:Addr}{fd:FD}(F:br K "has_twice" "has_twice" Jt f fd)(tA:mg "any"=none)(tE:mg "enumerate"=none):Ê aE 1 f fd ["things"] (SQ K):=by
 refine F.ok K6 À;obtain⟨p,xs,ds,rfl,hp,hd,EI,hl,k⟩:=h;have hu:A.units+3+128<cLine:=by have:=hr.un;exact oQ Â this
 refine⟨_,aD (aZ (c6 (Qb rfl) Ò tA boot_any (ae (eB (own:=[("place",1),("thing",2)]) (g:=g2 K 1 2) (te:=bQ (Rf K) ŗ (PP (PU K) ώ PL (PM ϖ))) rfl K6.nd Âi É
  (λ_ _ _ _ _=>iB 1 2 K6.nd) Ó
  (λ_ _ _ _ _=>jt (Iy hu) è (wN wO Ù wL (wM á)) (by with_unfolding_all rfl))) ag))),?_⟩
 refine⟨_,rfl,p,xs,rfl,hp,λD hD=>lj (K:=K) (a:=p) (xs:=xs) (cw H D λi y ns=>ns=[]∧y=.bl (xq ds i)) ć (λi H' _ f=>f.same.seq hp) (λi x T H' hi f hT=>?_) ø⟩
 ·have dY:=(bH.mp hi).1;refine⟨T,_,rfl,bu.of ao,rfl,_,_,rfl,_,_,rfl,rfl,rfl,eJ ?_⟩;have s1:ai H' (upd H' T (.tup [.int (i:Nat),x])):=aK hT;have s2:=f.same.trans s1;refine⟨_,rfl,_,rfl,_,rfl,_,rfl,p,xs,rfl,s2.seq hp,λc hc=>?_⟩;have s3:=aK (o:=.lst (nX xs none (some (i:Int)))) hc;obtain⟨d,fq,fA⟩:=afY hd hi;refine⟨c,_,ds.take i,d,rfl,aa.of ao,?_,afW ī fA,λd hd=>EI d (GH hd),EI d (bY fq),?_⟩
  ·have z:=SN ī (afX i hd);rw[SO xs Ä] at z⊢;omega
  ·refine f.step hD Ä Äw Ŕ aU.nil Â;unfold xq;simp_all
 ·obtain⟨ys,s1,fq,eW,fl⟩:=f.end;have ey:ys=((List.range ds.length).map (xq ds)).map V.bl:=by
   rw[cO];refine um (by rw[eW,gX,Rh hd]) λi y x h1 h2=>?_;obtain⟨ns,⟨_,e⟩,_⟩:=fl i y h1;grind
  refine⟨D,(List.range ds.length).map (xq ds),rfl,?_,?_⟩
  ·rw[←ey];exact aa.of fq
  ·have q:=k H' s1;unfold og at q;simp_all
def iF(a b:gS):Bool:=if a.role=0∧b.role=0 then true else HT.lexLt [(a.role:Nat),a.jP] [(b.role:Nat),b.jP]
inductive K7(CK:Addr)(vs:aq)(H:Hp)(Q:VK)(E':XK):Prop
 |mk (a b:az) (_:vs=[.ref a.a,.ref b.a]) (_:aU H (jQ CK a)) (_:aU H (jQ CK b)) (_:∀H',ai H H'→Q (.bl (iF a.m b.m)) H')
def ji(h:aU H (jQ C k)):H k.a=some (.ins C k.dx (vA k)):=h (k.a,_) (by simp[jQ])
def SR(h:aU H (jQ C k)):H k.nm=some (.lst (iv k.m.name)):=h (k.nm,_) (by simp[jQ])
def SS(h:aU H (jQ C k)):H k.lk=some (.lst (iv k.m.look)):=h (k.lk,_) (by simp[jQ])
def lK(n m:Nat):decide (V.int (n:Nat)=V.int (m:Nat))=decide (n=m):=by
 grind
def af0:bC ["before","kind"] ["before","kind"] (a7 Jr):=cu
def af1(F:br K "may_follow" "may_follow" Jr f fd)(T:rW K CK)(cS:Cn mg "SIGN" Ň):Ê aE 1 f fd ["before","kind"] (K7 CK):=by
 refine F.ok af0 À;obtain⟨a,b,rfl,ha,hb,k⟩:=h;refine⟨_,aB (dq (PW.pt (pw_and (cI hJ ë Æo (bT _)) (pw_and1 (cI hJ ğ Æo (bT _))))) Âa d7)
  (aD (aZ (jt (ZY hr.ZL) (tO (ae ë Æp)) (tO (ae ğ (ae ğ ag))) (bT _)))),?_⟩
 have bG:¬(a.m.role=0∧b.m.role=0)→As (bQ (PQ K) (wJ (bg (fY K ώ "role") (bg (fY K ώ "which") du))) (wJ (bg (fY K ϖ "role") (bg (fY K ϖ "which") du)))) {nx:=λ_ H'=>Q .aJ H',rt:=Q} [some (.ref a.a),some Æx] H:=λhn=>by
  refine⟨_,rfl,bo (ji ha) T.c T.vC (vB a) ⟨_,rfl,bo (ji ha) T.c T.KS (KQ a) ⟨(by show 2≤sizeLine;decide),λt1 h1=>?_⟩⟩⟩;have s1:=aK (o:=.tup [.int (a.m.role:Nat),.int a.m.jP]) h1;refine⟨_,rfl,bo (s1 _ _ (ji hb)) T.c T.vC (vB b) ⟨_,rfl,bo (s1 _ _ (ji hb)) T.c T.KS (KQ b) ⟨(by show 2≤sizeLine;decide),λt2 h2=>?_⟩⟩⟩;have s2:=aK (o:=.tup [.int (b.m.role:Nat),.int b.m.jP]) h2;refine⟨t1,t2,[(a.m.role:Nat),a.m.jP],[(b.m.role:Nat),b.m.jP],rfl,rfl,bu.of (s2 _ _ ao),bu.of ao,?_⟩;have q:=k _ Àv;unfold iF at q;grind
 refine⟨_,rfl,bo (ji ha) T.c T.vC (vB a) ĝ⟩;rw[show V.int 0=V.int ((0:Nat):Int) from rfl,lK];refine a9 š š
 ·simp at h1;refine⟨_,rfl,bo (ji hb) T.c T.vC (vB b) ĝ⟩;rw[lK];refine a9 Áh Áh
  ·simp at h2;have q:=k H Ÿ;unfold iF at q;rw[af ⟨h1,h2⟩] at q;exact q
  ·simp at h2;exact bG λz=>h2 z.2
 ·simp at h1;exact bG λz=>h1 z.1
end
def m8{C:Addr}{H:Hp}{ks:List az}(h:aU H (zc C ks)){k:az}(hk:k∈ks):aU H (jQ C k):=λx hx=>h x (j7.mpr ⟨k,hk,hx⟩)
def af2(h:∀k∈ks,aU H (jQ C k)):aU H (zc C ks):=λx hx=>by
 obtain⟨k,hk,hx⟩:=j7.mp hx;exact h k hk x hx
theorem EJ{l:List az}{i:Nat}{y:V}(h:(l.map λk=>V.ref k.a)[i]? =some y):∃z,l[i]? =some z∧y=V.ref z.a:=by
 rw[bX] at h;cases e:l[i]? with
 |none=>rw[e] at h;cases h
 |some z=>rw[e] at h;exact⟨z,rfl,(aO h).symm⟩
def isSign(m:gS):Bool:=decide (m.role=0)
def m9(ms:aF):Bool:=if (ms.filter isSign).length<1∨(ms.filter isSign).length>48 then false else (ms.zip (ms.drop 1)).all λp=>iF p.1 p.2
inductive EK(CK:Addr)(b:aF→Bool)(vs:aq)(H:Hp)(Q:VK)(E':XK):Prop
 |mk (p:Addr) (ks:List az) (_:vs=[.ref p]) (_:H p=some (.lst (ks.map λk=>V.ref k.a))) (_:aU H (zc CK ks)) (_:ks.length≤100000) (_:∀H',ai H H'→Q (.bl (b Ë)) H')
def EL{α:Type}{p:α→Bool}{l:List α}{i:Nat}{x:α}(h:l[i]? =some x):(l.take (i+1)).filter p=(l.take i).filter p++(if p x=true then [x] else []):=by
 rw[take_snoc h,CY];congr 1;by_cases z:p x=true
 ·rw[af z];simp[z]
 ·rw[ah z];simp[z]
section
variable{P:Pg}{w:Wd}{K:FR}{mg:MG}{base:Heap}{CK CL CN N:Addr}
def zh:bC ["kinds","signs","kind","place"] ["kinds"] (a7 Jq):=cu
def af3{f:Addr}{fd:FD}(F:br K "are_in_order" "are_in_order" Jq f fd)(T:rW K CK)(tL:mg "len"=none)(tA:mg "all"=none)(tE:mg "enumerate"=none)(cS:Cn mg "SIGN" Ň)(cM:Cn mg "MOST_SIGNS" (.int 48))(dF:Å 1 "may_follow" ["before","kind"] (K7 CK)):Ê aE 2 f fd ["kinds"] (EK CK m9):=by
 refine F.ok zh À;obtain⟨p,ks,rfl,hp,hk,hl,k⟩:=h;refine⟨_,aB (cq 1 zh.nd (c6 f7 Ò tL PySem.boot_len (ae (eB (own:=[("kind",2)]) (tt:=mQ (bQ nW (fY K ŗ "role") Ãu)) (te:=ay 2) rfl zh.nd Åa É
   (λ_ _ _ _ _=>dv 2 zh.nd) (λ_ _ _ _ _=>o7 (cI hJ Ài Æo (bT _))) Ãs) ag)))
  (aB (dq (PW.pt (pw_or (cI wH á bh (bT _)) (pw_or1 (cI u4 á (b7 cM) (bT _))))) Âa d7)
  (aD (aZ (c6 Äm Ò tA ye (ae (eB (own:=[("place",3),("kind",2)]) (g:=g2 K 3 2) (te:=gY (K7 CK) [] E0 (bg (bQ ύ ώ Ŗ) (bg ŗ du))) rfl zh.nd
   (ku Ò tE (ae (wN wO Ù (wM bh) wL) ag)) É
   (λ_ _ _ _ _=>iB 3 2 zh.nd) Ó
   (λ_ _ _ _ _=>bz dF (ae (cA cQ Ù õ Õ) ţ))) ag))))),?_⟩
 have eo:m9 Ë=if (ks.filter λk=>isSign k.m).length<1∨(ks.filter λk=>isSign k.m).length>48 then false else ((ks.map az.m).zip ((ks.map az.m).drop 1)).all λp=>iF p.1 p.2:=by
  unfold m9;rw[yf,aA];rfl
 refine⟨_,rfl,p,rfl,⟨_,aa.of hp⟩,λD hD=>gy (K:=K) (a:=p) (xs:=ks.map λk=>V.ref k.a) (λi H'=>ai H H'∧H' D=some (.lst (((ks.take i).filter λk=>isSign k.m).map λk=>V.ref k.a))) ⟨aK hD,ao⟩
  (λi H' _ ⟨s1,_⟩=>aa.of (s1 _ _ hp)) (λi y H' hi ⟨s1,hd⟩=>?_) (λH' ⟨s1,hd⟩=>?_)⟩
 ·obtain⟨z,hz,rfl⟩:=EJ hi;have dY:=(bH.mp hz).1;have xt:=(m8 hk (bY hz)).same s1;refine⟨rfl,_,rfl,bo (ji xt) T.c T.vC (vB z) ĝ⟩;rw[show V.int 0=V.int ((0:Nat):Int) from rfl,lK];have et:=EL (p:=λk:az=>isSign k.m) hz;refine a9 Í Í
  ·refine⟨_,rfl,_,hd,?_,fh s1 hD,?_⟩
   ·rw[aA];have:=GO (λk:az=>isSign k.m) (ks.take i);rw[mv] at this;exact gQ Ä
   ·rw[ao,et,af (show isSign z.m=true from hc),bV];rfl
  ·refine⟨s1,?_⟩;rw[et,ah (show ¬isSign z.m=true from hc),kY];omega
 ·rw[aA,mx] at hd;refine⟨D,_,rfl,.inl (aa.of hd),?_⟩;rw[aA];generalize (ks.filter λk=>isSign k.m).length=n at eo;refine⟨_,rfl,_,_,rfl,rfl,_,rfl,a9 š š⟩
  ·have h1:n<1:=by
    grind
   have q:=k H' s1;rw[eo,af (Or.inl h1)] at q;exact q
  ·have h1:¬n<1:=by
    grind
   refine⟨_,rfl,_,_,rfl,rfl,_,rfl,a9 Áh Áh⟩
   ·have h2:n>48:=by
     grind
    have q:=k H' s1;rw[eo,af (Or.inr h2)] at q;exact q
   ·have h2:¬n>48:=by
     grind
    rw[ah (λz=>z.elim h1 h2)] at eo;refine⟨_,rfl,_,rfl,p,_,rfl,aa.of (s1 _ _ hp),λc hc=>?_⟩;have ex:nX (ks.map λk=>V.ref k.a) (some 1) none=(ks.drop 1).map λk=>V.ref k.a:=by
     by_cases hz:1≤ks.length
     ·rw[show(1:Int)=((1:Nat):Int) from rfl,Bp _ Ç,OE]
     ·have:ks=[]:=by
       simp_all
      rw[this];rfl
    rw[ex];have s2:=s1.trans (aK (o:=.lst ((ks.drop 1).map λk=>V.ref k.a)) hc);have jc:(upd H' c (.lst ((ks.drop 1).map λk=>V.ref k.a))) c=some (.lst ((ks.drop 1).map λk=>V.ref k.a)):=ao;generalize upd H' c (.lst ((ks.drop 1).map λk=>V.ref k.a))=H2 at s2 jc;refine⟨c,_,rfl,aa.of jc,λD2 cE=>lj (K:=K) (a:=c) (xs:=(ks.drop 1).map λk=>V.ref k.a) (cw H2 D2 λi y ns=>ns=[]∧∃a b,ks[i]? =some a∧ks[i+1]? =some b∧y=.bl (iF a.m b.m)) Ãh (λi H3 _ f=>aa.of (f.same _ _ jc)) (λi y Tt H3 hi f hT=>?_) Åv⟩
    ·obtain⟨b,hb,rfl⟩:=EJ hi;rw[Xw] at hb;have hb:ks[i+1]? =some b:=by rw[←hb];congr 1;omega
     have hib:=(bH.mp hb).1;obtain⟨a,ha⟩:∃a,ks[i]? =some a:=⟨_,dm Ä⟩;have s3:ai H3 (upd H3 Tt (.tup [.int (i:Nat),.ref b.a])):=aK hT;have s4:=(s2.trans f.same).trans s3;refine Ü;exact⟨_,rfl,_,rfl,p,_,(i:Int),.ref a.a,rfl,rfl,aa.of (s4 _ _ hp),fZ Ç,_,rfl,a,b,rfl,(m8 hk (bY ha)).same s4,(m8 hk Ço).same s4,λH5 s5=>(f.step cE Ä (s3.trans s5) ⟨rfl,a,b,ha,hb,rfl⟩ aU.nil Â)⟩
    ·obtain⟨ys,s3,pB,EM,fl⟩:=f.end;have hz:((ks.map az.m).zip ((ks.map az.m).drop 1)).length=ys.length:=by
      simp_all
     have ey:ys=(((ks.map az.m).zip ((ks.map az.m).drop 1)).map λp=>iF p.1 p.2).map V.bl:=by
      rw[cO];refine um hz.symm λi y x h1 h2=>?_;obtain⟨ns,⟨_,a,b,ea,eb,e⟩,_⟩:=fl i y h1;grind
     refine⟨D2,_,rfl,by rw[←ey];exact aa.of pB,?_⟩;have q:=k H3 ī;simp_all
end
theorem xu{β:Type}{v:β→V}{nd:β→jg}{H:Hp}{ys:aq}:∀{R:Nat→β→Prop},Iz (λi y ns=>∃b,R i b∧y=v b∧ns=nd b) H ys→∃bs:List β,ys=bs.map v∧(∀(i:Nat)(b:β),bs[i]? =some b→R i b)∧∀b∈bs,aU H (nd b):=by
 induction ys with
 |nil=>exact @λR _=>⟨[],rfl,λi b h=>by simp at h,by simp⟩
 |cons y ys ih=>
  intro R h;obtain⟨ns,⟨b,r,e,en⟩,l⟩:=h 0 y rfl;obtain⟨bs,e1,r1,l1⟩:=ih (R:=λi b=>R (i+1) b) λi z hz=>h (i+1) z hz;refine⟨b::bs,by rw[e1,e];rfl,λi c hc=>?_,λc hc=>?_⟩
  ·cases i with
   |zero=>
    have:=aO hc;subst this;exact r
   |succ i=>exact r1 i c hc
  ·rcases bf.mp hc with rfl|hc
   ·rw[←en];exact l
   ·exact l1 c hc
theorem SU{α:Type}{K:FR}{H:Hp}{v:α→V}{d:α→PyData}{l:List α}:(∀x∈l,Dp K H (v x) (d x))→iT K H (l.map v) (l.map d):=by
 induction l with
 |nil=>exact @λ_=>.nil
 |cons x l ih=>
  intro h;exact .cons (h x Â) (ih λy hy=>h y (aN _ hy))
def vG(m:gS):PyData:=.list (m.name.map PyData.int)
def qG(m:gS):PyData:=.tuple [.int (m.shape:Nat),.list (m.look.map PyData.int)]
def oh(ms:aF):Bool:=!og ((ms.filter isSign).map vG)&& !og Çk
def af5(m:gS):SeqAt.shaped (qG m)=true:=by
 unfold SeqAt.shaped qG;rw[jq,nI];refine Áf
 ·simp only[PyData.canLay0,PyData.canLayAll0,Q8,Oz]
 ·have:=Q9 m.look;simp only[PyData.depth,PyData.depthAll];omega
section
variable{P:Pg}{w:Wd}{K:FR}{mg:MG}{base:Heap}{CK CL CN N:Addr}
def Bq:bC ["kinds","names","faces","kind"] ["kinds"] (a7 Js):=cu
def af6{f:Addr}{fd:FD}(F:br K "are_different" "are_different" Js f fd)(T:rW K CK)(cS:Cn mg "SIGN" Ň)(dT:Å 1 "has_twice" ["things"] (SQ K)):Ê aE 2 f fd ["kinds"] (EK CK oh):=by
 refine F.ok Bq À;obtain⟨p,ks,rfl,hp,hk,hl,k⟩:=h;refine⟨_,aB (tW (i:=1) (own:=[("kind",3)]) (tt:=mQ (bQ nW (fY K Ŗ "role") Ãu)) (te:=fY K Ŗ "name") rfl Bq.nd rfl rfl Ò Åa É
   (λ_ _ _ _ _=>dv 3 Bq.nd) (λ_ _ _ _ _=>o7 (cI hJ (bj õ rfl) Æo (bT _))) (λ_ _ _ _ _=>bj õ rfl))
  (aB (tW (i:=2) (own:=[("kind",3)]) (te:=wJ (bg (fY K Ŗ "shape") (bg (fY K Ŗ "look") du))) rfl Bq.nd rfl rfl Ò Åa É
   (λ_ _ _ _ _=>dv 3 Bq.nd) Ó (λ_ _ _ _ _=>tO (ae (bj õ rfl) (ae (bj õ rfl) ag))))
  (aD (aZ (tK (Aq (bz dT Œ)) (rq (Aq (bz dT ţ))))))),?_⟩
 refine⟨_,rfl,p,rfl,⟨_,aa.of hp⟩,λD hD=>gy (K:=K) (a:=p) (xs:=ks.map λk=>V.ref k.a) (λi H'=>ai H H'∧H' D=some (.lst (((ks.take i).filter λk=>isSign k.m).map λk=>V.ref k.nm))) ⟨aK hD,ao⟩
  (λi H' _ ⟨s1,_⟩=>aa.of (s1 _ _ hp)) (λi y H' hi ⟨s1,hd⟩=>?_) (λH' ⟨s1,hd⟩=>?_)⟩
 ·obtain⟨z,hz,rfl⟩:=EJ hi;have dY:=(bH.mp hz).1;have xt:=(m8 hk (bY hz)).same s1;refine⟨rfl,_,rfl,bo (ji xt) T.c T.vC (vB z) ĝ⟩;rw[show V.int 0=V.int ((0:Nat):Int) from rfl,lK];have et:=EL (p:=λk:az=>isSign k.m) hz;refine a9 Í Í
  ·refine⟨_,rfl,bo (ji xt) T.c T.nName (SC z) ⟨_,hd,?_,fh s1 hD,?_⟩⟩
   ·rw[aA];have:=GO (λk:az=>isSign k.m) (ks.take i);rw[mv] at this;exact gQ Ä
   ·rw[ao,et,af (show isSign z.m=true from hc),bV];rfl
  ·refine⟨s1,?_⟩;rw[et,ah (show ¬isSign z.m=true from hc),kY];omega
 ·rw[aA,mx] at hd;refine⟨_,rfl,p,rfl,⟨_,aa.of (s1 _ _ hp)⟩,λD2 cE=>gy (K:=K) (a:=p) (xs:=ks.map λk=>V.ref k.a) (cw H' D2 λi y ns=>∃b:Addr×az,ks[i]? =some b.2∧y=.ref b.1∧ns=[(b.1,.tup [.int (b.2.m.shape:Nat),.ref b.2.lk])]) Ãh
   (λi H2 _ f=>aa.of (f.same _ _ (s1 _ _ hp))) (λi y H2 hi f=>?_) Åw⟩
  ·obtain⟨z,hz,rfl⟩:=EJ hi;have dY:=(bH.mp hz).1;have xt:=(m8 hk (bY hz)).same (s1.trans f.same);refine⟨rfl,eJ ⟨_,rfl,bo (ji xt) T.c T.yX (SD z) ⟨_,rfl,bo (ji xt) T.c T.SG (SE z) ⟨(by show 2≤sizeLine;decide),λt ht=>?_⟩⟩⟩⟩;refine f.step cE Ä (aK ht) ⟨(t,z),hz,rfl,rfl⟩ Áq λx hx=>?_
   ·have:x=(t,_):=nJ.mp hx;subst this;exact ao
   ·have:x=(t,_):=nJ.mp hx;subst this;exact λe=>f.has Ç
  ·obtain⟨ys,s2,fA,je,fl⟩:=f.end;rw[aA] at je;obtain⟨bs,e1,r1,l1⟩:=xu (v:=λb:Addr×az=>V.ref b.1) (nd:=λb:Addr×az=>[(b.1,.tup [.int (b.2.m.shape:Nat),.ref b.2.lk])]) (R:=λi b=>ks[i]? =some b.2) fl;have eY:=s1.trans s2;have eb:bs.map (·.2)=ks:=by
    apply wm;grind
   have g8:∀{H3:Hp},ai H2 H3→iT K H3 ys ((ks.map az.m).map qG):=λ{H3}s3=>by
    rw[e1,←eb,cO,cO];refine SU λb hb=>?_;have vH:b.2∈ks:=by rw[←eb];exact List.mem_map_of_mem hb
    refine .tup (bu.of (s3 _ _ (l1 b hb (b.1,_) (nJ.mpr rfl)))) (.cons (.int _) (.cons (.lst (aa.of (s3 _ _ (eY _ _ (SS (m8 hk vH))))) (qy _)) .nil))
   have ef:(ks.map az.m).filter isSign=(ks.filter λk=>isSign k.m).map az.m:=by
    rw[yf];rfl
   refine⟨_,rfl,D,_,((ks.filter λk=>isSign k.m).map az.m).map vG,rfl,aa.of (s2 _ _ hd),?_,?_,?_,λH3 s3=>⟨_,rfl,_,rfl,?_⟩⟩
   ·rw[cO];exact SU λb hb=>(.lst (aa.of (eY _ _ (SR (m8 hk ((j3.mp hb).1))))) (qy _))
   ·intro d hd;obtain⟨m,_,rfl⟩:=cb.mp hd;exact shaped_ints _
   ·grind
   ·have q:=k;unfold oh at q;rw[ef] at q;refine a9 Í Í
    ·rw[hc] at q;refine⟨_,rfl,D2,_,(ks.map az.m).map qG,rfl,aa.of (s3 _ _ fA),g8 s3,λd hd=>?_,by omega,λH4 s4=>⟨_,rfl,q H4 ((eY.trans s3).trans s4)⟩⟩;obtain⟨m,_,rfl⟩:=cb.mp hd;exact af5 m
    ·have hc:(!og (((ks.filter λk=>isSign k.m).map az.m).map vG))=false:=by simpa using hc
     rw[hc,kW] at q;exact q H3 (eY.trans s3)
end
def gC:dc→Option aF
 |[]=>some []
 |l::r=>match iE l,gC r with
  |some m,some ms=>some (m::ms)
  |_,_=>none
theorem SV{r:dc}:∀{l:LI},l∈r→iE l=none→gC r=none:=by
 induction r with
 |nil=>intro l h;cases h
 |cons x r ih=>
  intro l h e;unfold gC;rcases bf.mp h with rfl|h
  ·rw[e]
  ·rw[ih h e];cases iE x <;> rfl
theorem af7{r:dc}:∀{ms:aF},ms.length=r.length→(∀(i:Nat)l m,r[i]? =some l→ms[i]? =some m→iE l=some m)→gC r=some ms:=by
 induction r with
 |nil=>
  intro ms h _;cases ms with
  |nil=>rfl
  |cons _ _=>cases h
 |cons l r ih=>
  intro ms h k;cases ms with
  |nil=>cases h
  |cons m ms=>
   unfold gC;rw[k 0 l m rfl rfl,ih (ms:=ms) (by simpa using h) λi l m h1 h2=>k (i+1) l m h1 h2]
def zi(n:Option LI)(ks:Option aF):Option (LI×aF):=match n,ks with
 |some n,some ms=>if (m9 ms&&oh ms)=true then some (n,ms) else none
 |_,_=>none
def fQ(bA:LI):Option (LI×aF):=match jz bA with
 |some (l::r)=>zi (fc (codes "locker") l) (gC r)
 |_=>none
def Br:zi n none=none:=by cases n <;> rfl
def Bs:zi none ks=none:=by cases ks <;> rfl
def rY(CL CK:Addr)(l:uj):jg:=(l.a,.ins CL l.dx (EB l))::(l.nm,.lst (iv l.name))::(l.kl,.lst (l.kinds.map λk=>V.ref k.a))::zc CK l.kinds
inductive SW(K:FR)(CL CK CN:Addr)(vs:aq)(H:Hp)(Q:VK)(E:XK):Prop
 |mk (ap:Addr) (bA:LI) (_:vs=[.ref ap]) (_:ß ap (iv bA)) (_:bA.length≤66000) (_:(∀x,fQ bA=some x→∀H' l,ai H H'→l.name=x.1→l.kinds.map az.m=x.2→aU H' Ãd→l.kinds.length≤66000→Q (.ref l.a) H')) (_:(fQ bA=none→No E CN H))
section
variable{P:Pg}{w:Wd}{K:FR}{mg:MG}{base:Heap}{CK CL CN N:Addr}
def Bt:bC ["text","lines","name","kinds","line"] ["text"] (a7 Jm):=cu
def af8{f:Addr}{fd:FD}(F:br K "read_locker" "read_locker" Jm f fd)(X:ϊ "NoLocker" CN N)(dW:Å 2 "whole_lines" ["text"] (KN K)) (dN:Å 4 "name_behind" ["title","line"] (KM K)) (dK:Ć ē 5 "read_kind" ["line"] (K1 K CK CN))(dO:Å 2 aeq ["kinds"] (EK CK m9)) (dD:Å 2 "are_different" ["kinds"] (EK CK oh)) (dL:ÿ "Locker" CL ["name","kinds"]):
  a8 P w K mg base ē 6 f fd ["text"] (SW K CL CK CN):=by
 obtain⟨fK,fdK,GK,mK,kK,bK⟩:=dK;refine F.qw Bt À;obtain⟨ap,bA,rfl,hP,hl,k1,k2⟩:=h;refine⟨_,aB (cq 1 Bt.nd (bz dW ñ))
  (aB (dq (PW.pt (pw_or (nU (qg á)) (pw_or1 (cI ϫ á ĳ (bT _))))) Ì d7)
  (aB (cq 2 Bt.nd (bz dN (ae Dc œ)))
  (aB (Q5 (i:=3) (own:=[("line",4)]) (g:=oX 4) (tt:=AK) (te:=gY (K1 K CK CN) [] E (bg Ãi du)) rfl w8 Bt.nd rfl rfl Ò (eV (wN wO á (wM bh) wL)) É
   (λ_ _ _ _ _=>dv 4 Bt.nd) Ó (λ_ _ _ _ _=>lN GK hr rfl mK kK bK .nil qv ϣ))
  (aB (dq (PW.pt (pw_or Æd (pw_or (oW (jr (bz dO Ĳ))) (pw_or1 (oW (jr (bz dD Ĳ)))))))
   (Ì) d7)
  (aD (aZ (pF dL hr (ae è Ĳ)))))))),?_⟩
 refine⟨_,rfl,ap,bA,rfl,hP,by omega,λH1 v s1 hv=>?_⟩;have K8:∀L,jz bA=some L→L.length≤66000∧∀w∈L,w.length≤100000:=λL e=>by
  unfold jz at e;split at e
  ·have e:=aO e;subst e;refine⟨?_,λw hw=>?_⟩
   ·rw[Xs];have:=Ef 10 bA;omega
   ·have:=xk 10 bA w (Ad _ hw);omega
  ·simp_all
 have el:fQ bA=match jz bA with
   |some (l::r)=>zi (fc (codes "locker") l) (gC r)
   |_=>none:=rfl
 cases ew:jz bA with
 |none=>
  rw[ew] at hv el;have hv:=hv;subst hv;exact⟨_,rfl,_,rfl,ky (gG ((k2 el).go s1))⟩
 |some L=>
  obtain⟨hL1,l5⟩:=K8 L ew;rw[ew] at hv el;obtain⟨p,qs,rfl,p7,hp,pJ,fr⟩:=hv;refine⟨_,rfl,_,rfl,mZ ⟨_,rfl,dQ _,λe1 n1=>?_⟩⟩;have s2:=aK (o:=.lst []) n1;have ui:=s2 _ _ hp;have K9:=pJ.same s2;have eY:=s1.trans s2;have D0:(upd H1 e1 à) e1=some à:=ao;generalize upd H1 e1 à=H2 at s2 ui K9 eY D0;refine⟨p,e1,_,rfl,rfl,aa.of ui,aa.of D0,_,rfl,a9 Í Í⟩
  ·have hq:qs=[]:=by
    simp_all
   subst hq;cases K9;exact gG ((k2 el).go eY)
  ·cases K9 with
   |nil=>simp_all
   | @cons q l qs r hq uM=>
    have uM:d9 H2 qs r:=uM;have el:fQ bA=zi (fc (codes "locker") l) (gC r):=el;have Bm:r.length≤66000:=by simp only[cZ] at hL1;omega
    have vI:=uM.len;refine⟨_,rfl,p,_,0,V.ref q,rfl,rfl,aa.of ui,fZ (j:=0) rfl,"locker",q,l,rfl,by decide,aa.of hq,l5 l Â,λH3 vn s3 hn=>?_⟩;have pG:=eY.trans s3;refine⟨_,rfl,_,rfl,p,_,rfl,aa.of (s3 _ _ ui),λc hc=>?_⟩;rw[show nX ((q::qs).map V.ref) (some 1) none=qs.map V.ref from(Bp _ (i:=1) Â).trans rfl];have s4:=aK (o:=.lst Ãw) hc;have jc:(upd H3 c Č) c=some Č:=ao;generalize upd H3 c Č=H4 at s4 jc;have n0:=pG.trans s4;have aga:=uM.same (s3.trans s4);refine⟨c,rfl,⟨_,aa.of jc⟩,λD hD=>gy (K:=K) (a:=c) (xs:=qs.map V.ref) (cw H4 D λi y ns=>∃b:az,(∀l,r[i]? =some l→iE l=some b.m)∧y=.ref b.a∧ns=jQ CK b) ć
     (λi H5 _ f=>aa.of (f.same _ _ jc)) (λi y H5 hi f=>?_) (λH5 f=>?_)⟩
    ·rw[bX] at hi;cases eq:qs[i]? with
     |none=>simp_all
     |some qi=>
      rw[eq] at hi;have ey:=aO hi;subst ey;have dY:=(bH.mp eq).1;obtain⟨q',_,e',h'⟩:=aga.at (j:=i) Ä;rw[bX,eq] at e';have e':=aO e';injection e' with e';subst e';have qm:r[i]? =some (r.getD i []):=by
       simp_all
      have vJ:=bY qm;refine⟨rfl,eJ ⟨_,rfl,qi,r.getD i [],rfl,aa.of (f.same _ _ h'),l5 _ (aN _ vJ),λm em H6 kd s6 ek hkd o6=>?_,λen=>?_⟩⟩
      ·refine f.step hD Ä s6 ⟨kd,λl hl=>?_,rfl,rfl⟩ hkd λx hx e=>f.has (by grind);simp_all
      ·exact(k2 (by rw[el,SV vJ en,Br])).go (n0.trans f.same)
    ·obtain⟨ys,s5,La,SX,fl⟩:=f.end;rw[aA] at SX;obtain⟨ks,e1,r1,l1⟩:=xu (v:=λb:az=>V.ref b.a) (nd:=jQ CK) (R:=λi b=>∀l,r[i]? =some l→iE l=some b.m) fl;subst e1;rw[aA] at SX;have Lb:gC r=some Ë:=af7 Ç λi l m h1 h2=>by
      grind
     rw[Lb] at el;have vF:=n0.trans s5;have Lc:=af2 l1;cases en:fc (codes "locker") l with
     |none=>
      rw[en,Bs] at el;rw[en] at hn;have hn:=hn;subst hn;exact⟨_,rfl,_,rfl,ky (gG ((k2 el).go vF))⟩
     |some nm=>
      rw[en] at hn el;obtain⟨an,rfl,EN,lL⟩:=hn;have el:fQ bA=if (m9 Ë &&oh Ë)=true then some (nm,ks.map az.m) else none:=el;refine⟨_,rfl,_,rfl,mZ ⟨_,rfl,D,ks,rfl,La,Lc,by omega,λH6 s6=>⟨_,rfl,a9 (λho=>?_) (λho=>?_)⟩⟩⟩
      ·simp at ho;rw[ho,kW,ah Ø] at el;exact gG ((k2 el).go (vF.trans s6))
      ·simp at ho;refine⟨_,rfl,D,ks,rfl,s6 _ _ La,Lc.same s6,by omega,λH7 s7=>⟨_,rfl,a9 Ė Ė⟩⟩
       ·simp at hd;rw[hd,yc,ah Ø] at el;exact gG ((k2 el).go ((vF.trans s6).trans s7))
       ·simp at hd;rw[ho,hd,Oz,af rfl] at el;have EO:=s6.trans s7;refine⟨_,rfl,_,rfl,vD rfl λx dx H8 hx iV aQ e8 s8=>?_⟩;refine k1 _ el H8 ⟨x,dx,an,D,nm,ks⟩ ((vF.trans EO).trans s8) rfl rfl Áp Ç;simp only[rY,bf] at hy;rcases hy with rfl|rfl|rfl|hy
        ·exact e8
        ·exact s8 _ _ (EO _ _ (s5 _ _ (s4 _ _ lL)))
        ·exact s8 _ _ (EO _ _ La)
        ·exact(Lc.same (EO.trans s8)) y hy
end
end HD
end
section
namespace HD
open PySem PySem.Spec PyProof.Rows L2
def getD_map{α β:Type}{f:α→β}{l:List α}{i:Nat}{a:α}{d:β}(h:l[i]? =some a):(l.map f).getD i d=f a:=by
 simp_all
def getD_at{α:Type}{l:List α}{i:Nat}{a d:α}(h:l[i]? =some a):l.getD i d=a:=by
 simp_all
def iI(look:LI):Prop:=look.length=16∧∀x∈look,0≤x∧x<16
def getD_mem{l:LI}{i:Nat}(h:i<l.length):l.getD i 0∈l:=by
 simp_all
def agc{signs part l:LI}(h:jx signs part=some l):l.length=part.length∧∀x∈l,0≤x∧x<signs.length:=by
 unfold jx at h;grind
def agd(h:iE line=some m):m.shape<3∧iI m.look:=by
 unfold iE oa at h;split at h
 ·cases h
 ·rename_i r er;by_cases hl:(JM.aI 32 line).length=(if r=2 then 4 else 5)
  ·rw[af hl] at h;generalize lr r _=a1 at h;generalize qE r _=a2 at h;generalize iq _ 8=a3 at h;cases e4:bw û ((JM.aI 32 line).getD ((JM.aI 32 line).length-2) []) with
   |none=>rw[e4,EF] at h;cases h
   |some sh=>
    rw[e4] at h;cases e5:ib ((JM.aI 32 line).getD ((JM.aI 32 line).length-1) []) with
    |none=>rw[e5,EG] at h;cases h
    |some lk=>
     rw[e5] at h
     match a1,a2,a3,h with
     |some n,some w,some c,h=>
      have:=aO h;subst this;refine⟨zd e4,?_⟩;unfold ib at e5;split at e5
      ·rename_i qH;obtain⟨p1,p2⟩:=agc e5;exact⟨p1.trans qH,p2⟩
      ·cases e5
  ·simp_all
end HD
end
section
namespace HD
open PySem JM
def Bu{p:Int→Bool}(h:((List.range 256).all λn=>p ((n:Nat):Int))=true)(hx:0≤x∧x≤255):p x=true:=by
 have:=kZ.mp h x.toNat (z7.mpr Ä);grind
def eqB(ha:a0 a)(hx:a0 Ş)(e:(codes x).map B=Flags.ascii s):(a.map B=Flags.ascii s)↔a=codes x:=by
 rw[←e];exact⟨λz=>vq ha hx z,λz=>by rw[z]⟩
def uo(h:(codes x).all (λx=>decide (0≤x)&&decide (x≤255))=true):a0 Ş:=Ee h
def hexVal(h:0≤x∧x≤255):Flags.hexValue (B x)=if kC.contains x=true then some (kC.idxOf x) else none:=by
 have:=Bu (p:=λx=>decide (Flags.hexValue (B x)=if kC.contains x=true then some (kC.idxOf x) else none)) È h;simp_all
def age(h:0≤x∧x≤255):Flags.isSign (B x)=(codes zb).contains x:=by
 have:=Bu (p:=λx=>decide (Flags.isSign (B x)=(codes zb).contains x)) È h;simp_all
theorem agf{l:LI}:a0 l→(l.map B).mapM Flags.hexValue=if l.all Ãa=true then some (l.map λb=>kC.idxOf b) else none:=by
 induction l with
 |nil=>exact @λ_=>rfl
 |cons x r ih=>
  intro h;have ih:=ih λz hz=>h z (aN _ hz);rw[aY,GG,hexVal (h x gu),ih,qW];by_cases h1:kC.contains x=true
  ·rw[af h1,h1,lF];by_cases h2:r.all Ãa=true
   ·rw[af h2,af h2];rfl
   ·rw[ah h2,ah h2];rfl
  ·rw[ah h1];have h1:kC.contains x=false:=by simpa using h1
   rw[h1,kW,ah dZ];rfl
def eM(l:LI):Nat:=Flags.lookOf λi=>(l.getD i 0).toNat
def SY{l:LI}(h:a0 l):Flags.lookIn ĵ=(ib l).map eM:=by
 unfold Flags.lookIn ib;rw[aA];by_cases e:l.length=16
 ·rw[ah (λq=>q e),af e,agf h];unfold jx;by_cases h2:l.all Ãa=true
  ·rw[af h2,af h2];refine cz (λf=>some (Flags.lookOf f)) (funext λi=>?_);rw[iQ,iQ,bX,bX];cases l[i]? with
   |none=>rfl
   |some x=>rfl
  ·rw[ah h2,ah h2];rfl
 ·rw[af e,ah e];rfl
def ER(h:a0 l):Flags.isName ĵ=iD l:=by
 unfold Flags.isName iD;rw[aA,qX,show l.all (Flags.isSign∘B)=l.all λb=>(codes zb).contains b from IZ h λx hx=>age hx]
theorem digit_eq(h:a0 l)(most:Nat):Flags.digitOf most ĵ=(iq l (most:Int)).map Int.toNat:=by
 unfold Flags.digitOf iq
 match l,h with
 |[],_=>rfl
 |[d],h=>
  have hd:=h d gu;show(if 49≤(B d).toNat∧(B d).toNat≤48+most then some ((B d).toNat-48) else none)=Option.map Int.toNat (if d<49∨d>48+(most:Int) then none else some (d-48));rw[IY hd];by_cases c:d<49∨d>48+(most:Int)
  ·rw[af c,ah Ä];rfl
  ·rw[ah c,af Ä];congr 1;omega
 |a::b::r,_=>rfl
def SZ(a b c w:LI):bw [a,b,c] w=if a=w then some 0 else if b=w then some 1 else if c=w then some 2 else none:=by
 unfold bw;grind
def agg(h:a0 w):Flags.shapeOf Ħ=bw û w:=by
 unfold Flags.shapeOf;show _=bw [codes "square",codes "tails",codes "long"] w;rw[SZ];have e1:=eqB (a:=w) (x:="square") (s:="square") h Åy È;have e2:=eqB (a:=w) (x:="tails") (s:="tails") h Åy È;have e3:=eqB (a:=w) (x:="long") (s:="long") h Åy È;grind
def pK(m:gS):Flags.Role:=if m.role=0 then .sign (m.name.map B) else if m.role=1 then .same m.jP.toNat else .answer
def bU(m:gS):Flags.Kind:=⟨pK m,m.copies.toNat,m.shape,eM m.look⟩
def Ld(hc:a0 c)(hs:a0 s)(hl:a0 l)(R:Flags.Role)(hR:∀a b d,pK ⟨r,n,wh,a,b,d⟩=R):
  Flags.kindOf R Åp (s.map B) ĵ=(qF r (some n) (some wh) (iq c 8) (bw û s) (ib l)).map bU:=by
 unfold Flags.kindOf;rw[show Flags.digitOf 8 Åp=(iq c 8).map Int.toNat from digit_eq hc 8,agg hs,SY hl];cases e1:iq c 8 with
 |none=>rfl
 |some a=>
  cases e2:bw û s with
  |none=>rfl
  |some b=>
   cases e3:ib l with
   |none=>rfl
   |some d=>
    show some _=some (bU ⟨r,n,wh,a,b,d⟩);unfold bU;simp_all
def agh{line:LI}(h:a0 line):Flags.kindIn (line.map B)=(iE line).map bU:=by
 unfold Flags.kindIn iE;rw[show Flags.cutAt 32 (line.map B)=(aI 32 line).map ç from xj 32 Ø line h];have ir:=pz 32 (l:=line) h;generalize aI 32 line=ws at ir;have rm:∀w:LI,bw ϑ w=if codes "sign"=w then some 0 else if codes "same"=w then some 1 else if codes "answer"=w then some 2 else none:=λw=>SZ _ _ _ w;have d1:¬codes "sign"=codes "same":=by decide+kernel
 have d2:¬codes "sign"=codes "answer":=by decide+kernel
 have d3:¬codes "same"=codes "answer":=by decide+kernel
 have short:∀v:dc,v.length≠4→v.length≠5→oa v=none:=λv h4 h5=>by
  unfold oa;split
  ·rfl
  ·rename_i r _;rw[ah];by_cases z:r=2
   ·rw[af z];exact h4
   ·rw[ah z];exact h5
 match ws,ir with
 |[],_=>rw[short [] Ø Ø];rfl
 |[a],_=>rw[short [a] Â Â];rfl
 |[a,b],_=>rw[short [a,b] Â Â];rfl
 |[a,b,c],_=>rw[short [a,b,c] Â Â];rfl
 |[a,c,s,l],ir=>
  have ha:=ir a Â;have ea:=eqB (a:=a) (x:="answer") (s:="answer") ha Åy È;show(if a.map B=Flags.ascii "answer" then Flags.kindOf .answer Åp (s.map B) ĵ else none)=_;have ek:oa [a,c,s,l]=if codes "answer"=a then qF 2 (some []) (some 0) (iq c 8) (bw û s) (ib l) else none:=by
   unfold oa;rw[show([a,c,s,l]:dc).getD 0 []=a from rfl,rm a];by_cases c1:codes "sign"=a
   ·rw[af c1,ah (λz=>d2 (c1.trans z.symm))];rfl
   ·rw[ah c1];by_cases c2:codes "same"=a
    ·rw[af c2,ah (λz=>d3 (c2.trans z.symm))];rfl
    ·rw[ah c2];by_cases c3:codes "answer"=a
     ·rw[af c3,af c3];rfl
     ·rw[ah c3,ah c3]
  rw[ek];by_cases c3:a=codes "answer"
  ·rw[af (ea.mpr c3),af c3.symm];exact Ld (ir c Â) (ir s Â) (ir l Â) .answer λ_ _ _=>rfl
  ·rw[ah (λz=>c3 (ea.mp z)),ah (λz:codes "answer"=a=>c3 z.symm)];rfl
 |[a,n,c,s,l],ir=>
  have ha:=ir a Â;have hn:=ir n Â;have e1:=eqB (a:=a) (x:="sign") (s:="sign") ha Åy È;have e2:=eqB (a:=a) (x:="same") (s:="same") ha Åy È;show(if a.map B=Flags.ascii "sign"∧Flags.isName Èa=true then Flags.kindOf (.sign Èa) Åp (s.map B) ĵ else if a.map B=Flags.ascii "same" then (Flags.digitOf 4 Èa).bind (λ(j:Nat)=>Flags.kindOf (.same j) Åp (s.map B) ĵ) else none)=_;have ek:oa [a,n,c,s,l]=if codes "sign"=a then qF 0 (lr 0 n) (some 0) (iq c 8) (bw û s) (ib l) else if codes "same"=a then qF 1 (some []) (iq n 4) (iq c 8) (bw û s) (ib l) else none:=by
   unfold oa;rw[show([a,n,c,s,l]:dc).getD 0 []=a from rfl,rm a];by_cases c1:codes "sign"=a
   ·rw[af c1,af c1];rfl
   ·rw[ah c1,ah c1];by_cases c2:codes "same"=a
    ·rw[af c2,af c2];rfl
    ·rw[ah c2,ah c2];by_cases c3:codes "answer"=a
     ·rw[af c3];rfl
     ·rw[ah c3]
  rw[ek,ER hn];by_cases c1:a=codes "sign"
  ·rw[af c1.symm];by_cases c4:iD n=true
   ·rw[af ⟨e1.mpr c1,c4⟩,show lr 0 n=some n by unfold lr;rw[af rfl,af c4]];exact Ld (ir c Â) (ir s Â) (ir l Â) (.sign Èa) λ_ _ _=>rfl
   ·rw[ah (λz=>c4 z.2),ah (λz=>d1 (c1.symm.trans (e2.mp z))),show lr 0 n=none by unfold lr;rw[af rfl,ah c4],ED];rfl
  ·rw[ah (λz:_∧_=>c1 (e1.mp z.1)),ah (λz:codes "sign"=a=>c1 z.symm)];by_cases c2:a=codes "same"
   ·rw[af (e2.mpr c2),af c2.symm,show Flags.digitOf 4 Èa=(iq n 4).map Int.toNat from digit_eq hn 4];cases e:iq n 4 with
    |none=>rw[EE];rfl
    |some j=>
     exact Ld (ir c Â) (ir s Â) (ir l Â) (.same j.toNat) λ_ _ _=>rfl
   ·rw[ah (λz=>c2 (e2.mp z)),ah (λz:codes "same"=a=>c2 z.symm)];rfl
 |a::b::c::d::e::g::r,_=>rw[short _ Â Â];rfl
def nc:LN→Nat
 |[]=>0
 |d::r=>d%16+16*nc r
theorem agi(x:Nat):∀l:LN,nc (l++[x])=nc l+16^l.length*(x%16):=by
 intro l;induction l with
 |nil=>
  simp[nc]
 |cons d r ih=>
  show d%16+16*nc (r++[x])=d%16+16*nc r+16^(r.length+1)*(x%16);rw[ih,Nat.mul_add,OJ,←Nat.mul_assoc,Nat.mul_comm 16 (16^r.length)];omega
theorem agj(f:Nat→Nat):∀n,((List.range n).map λi=>f i%16*16^i).sum=nc ((List.range n).map f):=by
 intro n;induction n with
 |zero=>exact rfl
 |succ n ih=>
  rw[GQ,bV,bV,List.sum_append,ih];show _+(f n%16*16^n+0)=nc (_++[f n]);rw[agi,aA,gX,Nat.mul_comm (16^n)];omega
theorem S2:∀(i:Nat)(l:LN),nc l/16^i%16=l.getD i 0%16
 |i,[]=>by simp[nc]
 |0,d::r=>by
  show(d%16+16*nc r)/16^0%16=d%16;rw[Nat.pow_zero,Nat.div_one];omega
 |i+1,d::r=>by
  show(d%16+16*nc r)/16^(i+1)%16=r.getD i 0%16;rw[Nat.pow_succ',←Nat.div_div_eq_div_mul,show(d%16+16*nc r)/16=nc r by omega];exact S2 i r
def ES(f:Nat→Nat)(h:i<16):Flags.cell (Flags.lookOf f) i=f i%16:=by
 unfold Flags.cell Flags.lookOf;rw[agj,S2,iQ,bX,OK h];rfl
def Bv(h:iI l)(hi:i<16):Flags.cell (eM l) i=(l.getD i 0).toNat:=by
 unfold eM;rw[ES _ hi];obtain⟨h0,h1⟩:=h.2 _ (getD_mem (l:=l) (i:=i) (by rw[h.1];exact hi));omega
def agk{a b:LI}(ha:iI a)(hb:iI b)(e:eM a=eM b):a=b:=by
 apply wm;intro i;by_cases hi:i<16
 ·have h1:=Bv ha hi;have h2:=Bv hb hi;rw[e,h2] at h1;have ga:=ha.2 _ (getD_mem (l:=a) (i:=i) (by rw[ha.1];exact hi));have gb:=hb.2 _ (getD_mem (l:=b) (i:=i) (by rw[hb.1];exact hi));have:a.getD i 0=b.getD i 0:=by omega
  rw[iQ,iQ,dm (by rw[ha.1];exact hi),dm (by rw[hb.1];exact hi)] at this;rw[dm (by rw[ha.1];exact hi),dm (by rw[hb.1];exact hi)];exact cz some this
 ·rw[yd (by rw[ha.1];omega),yd (by rw[hb.1];omega)]
structure Kv(m:gS):Prop where
 role:m.role<3
 S3:m.role≠1→m.jP=0
 Bw:m.role=1→1≤m.jP∧m.jP≤4
 nm:a0 m.name
 lk:iI m.look
 sh:m.shape<3
 cp:1≤m.copies∧m.copies≤8
def S4(h:iq w most=some d):1≤d∧d≤most:=by
 unfold iq at h;grind
def S5{line:LI}(ir:a0 line){m:gS}(h:iE line=some m):Kv m:=by
 obtain⟨EI,pL⟩:=agd h;unfold iE oa at h;have h8:=pz 32 (l:=line) ir;generalize aI 32 line=ws at h h8;split at h
 ·cases h
 ·rename_i r er;have hr:r<3:=zd er;by_cases hl:ws.length=(if r=2 then 4 else 5)
  ·rw[af hl] at h;have hw1:a0 Ŋ:=by
    rw[iQ];cases e:ws[1]? with
    |none=>exact λx hx=>absurd hx Â
    |some w=>exact h8 w (bY e)
   cases e1:lr r Ŋ with
   |none=>rw[e1,ED] at h;cases h
   |some n=>
    cases e2:qE r Ŋ with
    |none=>rw[e2,EE] at h;cases h
    |some wh=>
     cases e3:iq (ws.getD (ws.length-3) []) 8 with
     |none=>rw[e3,K0] at h;cases h
     |some c=>
      cases e4:bw û (ws.getD (ws.length-2) []) with
      |none=>rw[e4,EF] at h;cases h
      |some sh=>
       cases e5:ib (ws.getD (ws.length-1) []) with
       |none=>rw[e5,EG] at h;cases h
       |some lk=>
        rw[e1,e2,e3,e4,e5] at h;have:=aO h;subst this;refine⟨hr,λz=>?_,λz=>?_,?_,pL,EI,S4 e3⟩
        ·unfold qE at e2;rw[ah z] at e2;exact(aO e2).symm
        ·unfold qE at e2;rw[af z] at e2;exact S4 e2
        ·unfold lr at e1;split at e1
         ·split at e1
          ·rw[←aO e1];exact hw1
          ·cases e1
         ·rw[←aO e1];exact λx hx=>absurd hx Â
  ·rw[ah hl] at h;cases h
theorem Le{r:dc}:∀{ms:aF},(∀l∈r,a0 l)→gC r=some ms→∀m∈ms,Kv m:=by
 induction r with
 |nil=>
  intro ms _ h m hm;have:=aO h;subst this;exact absurd hm Â
 |cons l r ih=>
  intro ms h8 h m hm;unfold gC at h;cases e1:iE l with
  |none=>rw[e1] at h;cases gC r <;> cases h
  |some k=>
   rw[e1] at h;cases e2:gC r with
   |none=>rw[e2] at h;cases h
   |some ks=>
    rw[e2] at h;have:=aO h;subst this;rcases bf.mp hm with rfl|hm
    ·exact S5 (h8 l Â) e1
    ·exact ih (λz hz=>h8 z (aN _ hz)) e2 m hm
def rZ(kp:Kv p)(kx:Kv x)(h:x.role=0):iF p x=true↔p.role=0:=by
 unfold iF;by_cases c:p.role=0∧x.role=0
 ·simp_all
 ·rw[ah c,HT.tU];simp_all
def vK(kp:Kv p)(kx:Kv x)(h:x.role=1):iF p x=true↔p.role=0∨(p.role=1∧p.jP<x.jP):=by
 unfold iF;rw[ah (λz=>by omega),HT.tU];by_cases c:((p.role:Nat):Int)=((x.role:Nat):Int)
 ·rw[af c,HT.tU];by_cases d:p.jP=x.jP
  ·rw[af d];constructor
   ·intro z;cases z
   ·omega
  ·grind
 ·grind
def ET{p x:gS}(kp:Kv p)(kx:Kv x)(h:x.role=2):iF p x=true↔ ¬p.role=2:=by
 unfold iF;have h1:=kx.S3 Ä;rw[ah (λz=>by omega),HT.tU];by_cases c:((p.role:Nat):Int)=((x.role:Nat):Int)
 ·have h2:=kp.S3 Ä;rw[af c,HT.tU,af (by rw[h1,h2])];constructor
  ·intro z;cases z
  ·intro z;omega
 ·rw[ah c,nI];have:=kp.role;omega
def agm{a b c:gS}(ka:Kv a)(kb:Kv b)(kc:Kv c)(h1:iF a b=true)(h2:iF b c=true):iF a c=true:=by
 have hb:=kb.role;have hc:=kc.role;have ra:b.role=0∨b.role=1∨b.role=2:=by omega
 have rc:c.role=0∨c.role=1∨c.role=2:=by omega
 rcases rc with rc|rc|rc
 ·rw[rZ kb kc rc] at h2;rw[rZ ka kb h2] at h1;rw[rZ ka kc rc];exact h1
 ·rw[vK kb kc rc] at h2;rw[vK ka kc rc];rcases h2 with h2|⟨h2,h3⟩
  ·rw[rZ ka kb h2] at h1;exact .inl h1
  ·rw[vK ka kb h2] at h1;rcases h1 with h1|⟨h1,h4⟩
   ·exact .inl h1
   ·exact .inr ⟨h1,by omega⟩
 ·rw[ET kb kc rc] at h2;rw[ET ka kc rc];rcases ra with ra|ra|ra
  ·rw[rZ ka kb ra] at h1;omega
  ·rw[vK ka kb ra] at h1;omega
  ·exact absurd ra h2
theorem Lf:∀{ms:aF},(∀m∈ms,Kv m)→(((ms.zip (ms.drop 1)).all λp=>iF p.1 p.2)=true↔ms.Pairwise λp x=>iF p x=true)
 |[],_=>by simp
 |[a],_=>by simp
 |a::b::r,h=>by
  have ih:=Lf (ms:=b::r) λm hm=>h m (aN _ hm);have ez:(a::b::r).zip ((a::b::r).drop 1)=(a,b)::(b::r).zip ((b::r).drop 1):=rfl;rw[ez,qW,jq,ih,GT (a:=a)];constructor
  ·rintro⟨h1,h2⟩;refine⟨λy hy=>?_,h2⟩;rcases bf.mp hy with rfl|hy
   ·exact h1
   ·exact agm (h a Â) (h b Â) (h y (by simp[hy])) h1 ((GT.mp h2).1 y hy)
  ·rintro⟨h1,h2⟩;exact⟨h1 b Â,h2⟩
theorem pw_place{α:Type}{R:α→α→Prop}{l:List α}:l.Pairwise R↔ ∀(i:Nat)x,l[i]? =some x→∀p∈l.take i,R p x:=by
 induction l with
 |nil=>
  simp
 |cons a r ih=>
  rw[GT,ih];constructor
  ·rintro⟨h1,h2⟩ i x hx p hp;cases i with
   |zero=>simp at hp
   |succ i=>
    rw[OG] at hp;rcases bf.mp hp with rfl|hp
    ·exact h1 x (bY hx)
    ·exact h2 i x hx p hp
  ·intro h;refine⟨λx hx=>?_,λi x hx p hp=>h (i+1) x hx p (by rw[OG];exact aN _ hp)⟩;obtain⟨i,hi,e⟩:=qY hx;exact h (i+1) x (by show r[i]? =some x;rw[dm hi,e]) a (by rw[OG];simp)
def Lg{ds:List PyData}:og ds=false↔ds.Pairwise λd e=>PyData.eqv d e=false:=by
 rw[pw_place];unfold og;rw[List.any_eq_false];constructor
 ·intro h i x hx p hp;have hi:=(bH.mp hx).1;have:=h i (z7.mpr hi);unfold xq at this;simp_all
 ·intro h i hi;have hi:=z7.mp hi;obtain⟨x,hx⟩:∃x,ds[i]? =some x:=⟨_,dm hi⟩;have:=h i x hx;unfold xq;simp_all
def Lh(a b:gS):PyData.eqv (vG a) (vG b)=decide (a.name=b.name):=L2.w9 _ _
def S6(a b:gS):PyData.eqv (qG a) (qG b)=(decide (a.shape=b.shape)&&decide (a.look=b.look)):=by
 unfold qG;simp only[PyData.eqv,PyData.eqvAll,L2.w9,OL];grind
def S7(p x:gS):Prop:=p.role=0∧x.role=0∧p.name=x.name
def EU(p x:gS):Prop:=p.shape=x.shape∧p.look=x.look
def xw(ps:aF)(x:gS):Prop:=(∀p∈ps,iF p x=true∧¬S7 p x∧¬EU p x)∧(x.role=0→ps.length<48)
def four{A B C D:Bool}{w x y z:Nat}:(if A=true then some w else if B=true then some x else if C=true then some y else if D=true then some z else none)=none↔A=false∧B=false∧C=false∧D=false:=by
 grind
def xx(m:gS):(bU m).isSign=decide (m.role=0):=by
 unfold bU Flags.Kind.isSign pK;grind
def xy(h:m.role=0):(bU m).role=.sign (m.name.map B):=by show pK m=_;unfold pK;rw[af h]
def zj(h:m.role=1):(bU m).role=.same m.jP.toNat:=by show pK m=_;unfold pK;rw[ah Ä,af h]
def EV(k:Kv m)(h:m.role=2):(bU m).role=.answer:=by show pK m=_;unfold pK;rw[ah Ä,ah Ä]
def zk{ps:aF}{f:Flags.Kind→Bool}:((ps.map bU).any f=false)↔ ∀p∈ps,f (bU p)=false:=by
 simp
def zl(kp:Kv p)(kx:Kv x):((bU p).shape==(bU x).shape&&(bU p).look==(bU x).look)=false↔ ¬EU p x:=by
 show(p.shape==x.shape&&eM p.look==eM x.look)=false↔_;unfold EU;by_cases h:p.shape=x.shape
 ·by_cases h2:p.look=x.look
  ·simp_all
  ·have h3:=λz=>h2 (agk kp.lk kx.lk z);simp_all
 ·simp[h]
def S8{ps:aF}{x:gS}(kp:∀p∈ps,Kv p)(kx:Kv x):Flags.wrongBehind (ps.map bU) (bU x)=none↔xw ps x:=by
 unfold Flags.wrongBehind;rw[four,zk];have hr:=kx.role;have rx:x.role=0∨x.role=1∨x.role=2:=by omega
 rcases rx with rx|rx|rx
 ·rw[xy rx,xx,zk,zk,aA,eF rx,lF];unfold xw;constructor
  ·rintro⟨h1,h2,h3,h4⟩;refine⟨λp hp=>⟨?_,λz=>?_,(zl Ń kx).mp (h4 p hp)⟩,λ_=>?_⟩
   ·rw[rZ Ń kx rx];have:=h1 p hp;rw[xx] at this;simp_all
   ·have:=h2 p hp;rw[xy z.1,z.2.2] at this;simp_all
   ·have:¬Flags.SIGNS≤ps.length:=by simpa using h3
    have e:Flags.SIGNS=48:=rfl;omega
  ·rintro⟨h1,h2⟩;refine⟨λp hp=>?_,λp hp=>?_,?_,λp hp=>(zl Ń kx).mpr (h1 p hp).2.2⟩
   ·have:=(rZ Ń kx rx).mp (h1 p hp).1;rw[xx,this];rfl
   ·have p0:=(rZ Ń kx rx).mp (h1 p hp).1;rw[xy p0];have hn:=(h1 p hp).2.1;rw[wg];intro z;injection z with z;exact hn ⟨p0,rx,vq (kp p hp).nm kx.nm z⟩
   ·have:=h2 rx;have e:Flags.SIGNS=48:=rfl;simp_all
 ·rw[zj rx,xx,zk,zk,fC Ä,kW];unfold xw;have hx:=kx.Bw rx;constructor
  ·rintro⟨h1,h2,h3,h4⟩;refine⟨λp hp=>⟨?_,λz=>?_,(zl Ń kx).mp (h4 p hp)⟩,λz=>?_⟩
   ·rw[vK Ń kx rx];have GY:=(kp p hp).role;have rp:p.role=0∨p.role=1∨p.role=2:=by omega
    rcases rp with rp|rp|rp
    ·exact .inl rp
    ·refine .inr ⟨rp,?_⟩;have:=h2 p hp;rw[zj rp] at this;have:=aoP this;have:=(kp p hp).Bw rp;omega
    ·have:=h1 p hp;rw[EV Ń rp] at this;simp at this
   ·have:=z.2.1;omega
   ·omega
  ·rintro⟨h1,h2⟩;refine⟨λp hp=>?_,λp hp=>?_,rfl,λp hp=>(zl Ń kx).mpr (h1 p hp).2.2⟩
   ·rcases(vK Ń kx rx).mp (h1 p hp).1 with z|z
    ·rw[xy z];rfl
    ·rw[zj z.1];rfl
   ·rcases(vK Ń kx rx).mp (h1 p hp).1 with z|z
    ·rw[xy z]
    ·rw[zj z.1];have:=(kp p hp).Bw z.1;exact fC Ä
 ·rw[EV kx rx,xx,zk,fC (by omega:¬x.role=0),kW];unfold xw;constructor
  ·rintro⟨h1,h2,h3,h4⟩;refine⟨λp hp=>⟨?_,λz=>?_,(zl Ń kx).mp (h4 p hp)⟩,λz=>?_⟩
   ·rw[ET Ń kx rx];intro rp;have:=h1 p hp;rw[EV Ń rp] at this;simp at this
   ·have:=z.2.1;omega
   ·omega
  ·rintro⟨h1,h2⟩;refine⟨λp hp=>?_,rfl,rfl,λp hp=>(zl Ń kx).mpr (h1 p hp).2.2⟩;have z:=(ET Ń kx rx).mp (h1 p hp).1;have GY:=(kp p hp).role;have rp:p.role=0∨p.role=1:=by omega
   rcases rp with rp|rp
   ·rw[xy rp];rfl
   ·rw[zj rp];rfl
def xA:aF→aF→Prop
 |_,[]=>True
 |past,x::r=>xw past x∧xA (past++[x]) r
def xB(ms:aF):Prop:=∃m∈ms,m.role=0
def S9:((ms.map bU).all λ(k:Flags.Kind)=>!k.isSign)=true↔ ¬xB ms:=by
 rw[qX,kZ];unfold xB;constructor
 ·rintro h ⟨m,hm,e⟩;have:=h m hm;simp only[aoU,xx,e] at this;simp_all
 ·intro h m hm;have:¬m.role=0:=λe=>h ⟨m,hm,e⟩;simp only[aoU,xx];simp_all
def agn(past:aF)(ls:dc)(z:LI):Prop:=z=[]∧∃ms,gC ls=some ms∧xA past ms∧xB (past++ms)
def ago(ls:dc):∀(z:LI)(i:Nat)(past:aF),(∀l∈ls,a0 l)→(∀p∈past,Kv p)→
  (∀ms,z=[]→gC ls=some ms→xA past ms→xB (past++ms)→Flags.judgeLines i Ł ((ls++[z]).map ç)=.ok ((past++ms).map bU))∧(¬agn past ls z→∃e,Flags.judgeLines i Ł ((ls++[z]).map ç)=.error e):=by
 induction ls with
 |nil=>
  intro z i past _ kp;have e:Flags.judgeLines i Ł (([]++[z]:dc).map ç)=if z.map B≠[]∨((past.map bU).all λ(k:Flags.Kind)=>!k.isSign)=true then .error (1,i) else .ok Ł:=rfl;rw[e];constructor
  ·intro ms hz hk _ hs;have:=aO hk;subst this;rw[kY] at hs⊢;rw[ah];rintro (h|h)
   ·exact h (by rw[hz];rfl)
   ·exact(S9.mp h) hs
  ·intro h;rw[af]
   ·exact⟨_,rfl⟩
   ·by_cases hz:z=[]
    ·right;rw[S9];intro hs;exact h ⟨hz,[],rfl,trivial,by rw[kY];exact hs⟩
    ·left;intro q;exact hz (List.map_eq_nil_iff.mp q)
 |cons w r ih=>
  intro z i past h8 kp;obtain⟨y,r',er⟩:∃y r',(r++[z]).map ç=y::r':=by
   cases r with
   |nil=>exact⟨_,_,rfl⟩
   |cons a b=>exact⟨_,_,rfl⟩
  have e:Flags.judgeLines i Ł (((w::r)++[z]).map ç)=match Flags.kindIn Ħ with
    |none=>.error (1,i)
    |some x=>match Flags.wrongBehind Ł x with
     |some e=>.error (e,i)
     |none=>Flags.judgeLines (i+1) (past.map bU++[x]) ((r++[z]).map ç):=by
   show Flags.judgeLines i Ł (w.map B::(r++[z]).map ç)=_;rw[er];rfl
  rw[e,agh (h8 w Â)];have uq:=λl hl=>h8 l (aN _ hl);cases ek:iE w with
  |none=>
   refine⟨λms _ hk=>?_,λ_=>⟨_,rfl⟩⟩;rw[SV (l:=w) Â ek] at hk;cases hk
  |some x=>
   have kx:=S5 (h8 w Â) ek;have kpx:∀p∈past++[x],Kv p:=λp hp=>by
    rcases gK.mp hp with hp|hp
    ·exact kp p hp
    ·rw[nJ.mp hp];exact kx
   obtain⟨Ta,Tb⟩:=ih z (i+1) (past++[x]) uq kpx;rw[bV] at Ta Tb;have Lb:∀ms,gC (w::r)=some ms→∃lQ,gC r=some lQ∧ms=x::lQ:=λms hk=>by
    unfold gC at hk;rw[ek] at hk;cases e2:gC r with
    |none=>rw[e2] at hk;cases hk
    |some ks=>
     rw[e2] at hk;exact⟨ks,rfl,(aO hk).symm⟩
   show(∀ms,z=[]→_→_→_→(match Flags.wrongBehind Ł (bU x) with
     |some e=>.error (e,i)
     |none=>Flags.judgeLines (i+1) (past.map bU++[bU x]) ((r++[z]).map ç):Except Flags.Fault (List Flags.Kind))=_)∧(_→∃e,(match Flags.wrongBehind Ł (bU x) with
     |some e=>.error (e,i)
     |none=>Flags.judgeLines (i+1) (past.map bU++[bU x]) ((r++[z]).map ç):Except Flags.Fault (List Flags.Kind))=_)
   constructor
   ·intro ms hz hk hs jR;obtain⟨lQ,kj,rfl⟩:=Lb ms hk;rw[(S8 kp kx).mpr hs.1];have:=Ta lQ hz kj hs.2 (by rw[rg];exact jR);refine this.trans ?_;rw[rg];rfl
   ·intro h;cases ew:Flags.wrongBehind Ł (bU x) with
    |some e=>exact⟨_,rfl⟩
    |none=>
     refine Tb λg=>h ?_;obtain⟨hz,lQ,kj,yi,jR⟩:=g;refine⟨hz,x::lQ,?_,⟨(S8 kp kx).mp ew,yi⟩,by rw[rg] at jR;exact jR⟩;unfold gC;rw[ek,kj]
theorem agq:∀{ms past:aF},xA past ms↔ ∀(i:Nat)x,ms[i]? =some x→xw (past++ms.take i) x:=by
 intro ms;induction ms with
 |nil=>
  intro past;simp[xA]
 |cons a r ih=>
  intro past;show xw past a∧xA (past++[a]) r↔_;rw[ih];constructor
  ·rintro⟨h1,h2⟩ i x hx;cases i with
   |zero=>
    have:=aO hx;subst this;simpa using h1
   |succ i=>
    have:=h2 i x hx;rw[rg] at this;exact this
  ·intro h;refine⟨by simpa using h 0 a rfl,λi x hx=>?_⟩;have:=h (i+1) x hx;rw[rg];exact this
theorem agr{ms:aF}:(∀m∈ms,Kv m)→(ms.Pairwise λp x=>iF p x=true)→0<(ms.filter isSign).length→∃x,ms[(ms.filter isSign).length-1]? =some x∧x.role=0:=by
 induction ms with
 |nil=>
  intro _ _ h;simp at h
 |cons a r ih=>
  intro kv hp h;obtain⟨p1,p2⟩:=GT.mp hp;have kr:=λm hm=>kv m (aN _ hm);by_cases ha:a.role=0
  ·have ef:(a::r).filter isSign=a::r.filter isSign:=by
    rw[wo,af (show isSign a=true by unfold isSign;simpa using ha)]
   rw[ef,cZ,Nat.add_sub_cancel];by_cases hz:0<(r.filter isSign).length
   ·obtain⟨x,hx,rX⟩:=ih kr p2 hz;refine⟨x,?_,rX⟩;obtain⟨k,ek⟩:∃k,(r.filter isSign).length=k+1:=⟨(r.filter isSign).length-1,by omega⟩;rw[ek] at hx⊢;exact hx
   ·rw[show(r.filter isSign).length=0 by omega];exact⟨a,rfl,ha⟩
  ·exfalso;have:(a::r).filter isSign=[]:=by
    rw[aoV];intro x hx hs;have rX:x.role=0:=by unfold isSign at hs;simpa using hs
    rcases bf.mp hx with rfl|hx
    ·exact ha rX
    ·exact ha ((rZ (kv a Â) (kr x hx) rX).mp (p1 x hx))
   rw[this] at h;simp at h
def ags{ms:aF}(kv:∀m∈ms,Kv m)(hp:ms.Pairwise λp x=>iF p x=true){i:Nat}{x:gS}(hx:ms[i]? =some x)(h0:x.role=0):i+1≤(ms.filter isSign).length:=by
 have hi:=(bH.mp hx).1;have jh:∀p∈ms.take (i+1),isSign p=true:=λp kH=>by
  rw[take_snoc hx] at kH;unfold isSign;rw[nI];rcases gK.mp kH with kH|kH
  ·exact(rZ (kv p (GH kH)) (kv x (bY hx)) h0).mp (pw_place.mp hp i x hx p kH)
  ·simp_all
 have e1:((ms.take (i+1)).filter isSign).length=i+1:=by
  rw[List.filter_eq_self.mpr jh,mv];omega
 have e2:ms.filter isSign=(ms.take (i+1)).filter isSign++(ms.drop (i+1)).filter isSign:=by
  rw[←CY,OF]
 simp_all
def Tc{ms:aF}(kv:∀m∈ms,Kv m):(m9 ms&&oh ms)=true↔xA [] ms∧xB ms:=by
 have nQ:=Lf kv;rw[agq,jq];unfold m9 oh;rw[jq];have tn:((!og ((ms.filter isSign).map vG))=true)↔ms.Pairwise λp x=>¬S7 p x:=by
  rw[show((!og ((ms.filter isSign).map vG))=true)↔og ((ms.filter isSign).map vG)=false by simp,Lg,OM,aoW];constructor
  ·intro h;refine h.imp λ{a b}ng z=>?_;have:=ng (by unfold isSign;simpa using z.1) (by unfold isSign;simpa using z.2.1);rw[Lh,z.2.2] at this;simp at this
  ·intro h;refine h.imp λ{a b}ng ha hb=>?_;rw[Lh,GJ];exact λz=>ng ⟨by unfold isSign at ha;simpa using ha,by unfold isSign at hb;simpa using hb,z⟩
 have tf:((!og Çk)=true)↔ms.Pairwise λp x=>¬EU p x:=by
  rw[show((!og Çk)=true)↔og Çk=false by simp,Lg,OM];constructor
  ·intro h;refine h.imp λ{a b}ng z=>?_;rw[S6,z.1,z.2] at ng;simp at ng
  ·intro h;refine h.imp λ{a b}ng=>?_;rw[S6,Bool.and_eq_false_iff];by_cases c:a.shape=b.shape
   ·right;rw[GJ];exact λz=>ng ⟨c,z⟩
   ·left;rw[GJ];exact c
 rw[tn,tf];have jR:1≤(ms.filter isSign).length↔xB ms:=by
  unfold xB;constructor
  ·intro h;obtain⟨x,hx⟩:∃x,x∈ms.filter isSign:=by
    cases e:ms.filter isSign with
    |nil=>rw[e] at h;simp at h
    |cons x r=>exact⟨x,by simp⟩
   exact⟨x,(j3.mp hx).1,by have:=(j3.mp hx).2;unfold isSign at this;simpa using this⟩
  ·rintro⟨m,hm,h0⟩;have:m∈ms.filter isSign:=j3.mpr ⟨hm,by unfold isSign;simpa using h0⟩;exact List.length_pos_of_mem this
 constructor
 ·rintro⟨h1,h2,h3⟩;split at h1
  ·cases h1
  ·rename_i hc;have hp:=nQ.mp h1;refine⟨λi x hx=>⟨λp kH=>?_,λh0=>?_⟩,jR.mp Ä⟩
   ·rw[yg] at kH;exact⟨pw_place.mp hp i x hx p kH,pw_place.mp h2 i x hx p kH,pw_place.mp h3 i x hx p kH⟩
   ·have:=ags kv hp hx h0;rw[yg,mv];omega
 ·rintro⟨h1,h2⟩;have hp:ms.Pairwise λp x=>iF p x=true:=pw_place.mpr λi x hx p kH=>((h1 i x hx).1 p (by rw[yg];exact kH)).1;refine⟨?_,pw_place.mpr λi x hx p kH=>((h1 i x hx).1 p (by rw[yg];exact kH)).2.1,pw_place.mpr λi x hx p kH=>((h1 i x hx).1 p (by rw[yg];exact kH)).2.2⟩;have n1:=jR.mpr h2;rw[ah,nQ]
  ·exact hp
  ·rintro (z|z)
   ·omega
   ·obtain⟨x,hx,rX⟩:=agr kv hp Ä;have:=(h1 _ x hx).2 rX;have hl:=(bH.mp hx).1;rw[yg,mv] at this;omega
def agt(h:a0 l):Flags.nameIn ĵ=(fc (codes "locker") l).map λn=>n.map B:=by
 unfold Flags.nameIn fc;rw[show Flags.cutAt 32 ĵ=(aI 32 l).map ç from xj 32 Ø l h];have h8:=pz 32 (l:=l) h;generalize aI 32 l=ws at h8
 match ws,h8 with
 |[],_=>rfl
 |[a],_=>rfl
 |[a,b],h8=>
  have ea:=eqB (a:=a) (x:="locker") (s:="locker") (h8 a Â) Åy È;show(if a.map B=Flags.ascii "locker"∧Flags.isName ş=true then some ş else none)=Option.map _ (if a=codes "locker"∧iD b=true then some b else none);rw[ER (h8 b Â)];by_cases c:a=codes "locker"∧iD b=true
  ·rw[af c,af ⟨ea.mpr c.1,c.2⟩];rfl
  ·rw[ah c,ah (λz:_∧_=>c ⟨ea.mp z.1,z.2⟩)];rfl
 |a::b::c::r,_=>rfl
def agu(h:a0 t):(∀x,fQ t=some x→Flags.judge ϒ=.ok ⟨x.1.map B,x.2.map bU⟩)∧(fQ t=none→∃e,Flags.judge ϒ=.error e):=by
 have oj:Flags.cutAt 10 ϒ=(aI 10 t).map ç:=xj 10 Ø t h;have h8:=pz 10 (l:=t) h;obtain⟨ls,z,ew⟩:∃ls z,aI 10 t=ls++[z]:=by
  rcases pE (aI 10 t) with e|⟨r,x,e⟩
  ·exact absurd e (lp 10 t)
  ·simp_all
 have hw:jz t=if z=[] then some ls else none:=by
  unfold jz;simp_all
 rw[ew] at oj h8;cases ls with
 |nil=>
  have hl:fQ t=none:=by
   unfold fQ;simp_all
  have hj:Flags.judge ϒ=.error (1,0):=by
   unfold Flags.judge;simp_all
  simp_all
 |cons w r=>
  have Du:=h8 w Â;have uq:∀l∈r,a0 l:=λl hl=>h8 l (by simp[hl]);obtain⟨y,r',er⟩:∃y r',(r++[z]).map ç=y::r':=by
   cases r with
   |nil=>simp
   |cons a b=>simp
  have hj:∀n,Flags.nameIn Ħ=some n→Flags.judge ϒ=(Flags.judgeLines 1 [] ((r++[z]).map ç)).map λ(l:List Flags.Kind)=>(⟨n,l⟩:Flags.Locker):=λn hn=>by
   unfold Flags.judge;simp_all
  have hj0:Flags.nameIn Ħ=none→Flags.judge ϒ=.error (1,0):=λhn=>by
   unfold Flags.judge;simp_all
  have hl:fQ t=if z=[] then zi (fc (codes "locker") w) (gC r) else none:=by
   unfold fQ;grind
  rw[hl];have hn:=agt Du;obtain⟨j1,j2⟩:=ago r z 1 [] uq Â;simp only[lE,yg] at j1 j2;cases en:fc (codes "locker") w with
  |none=>
   rw[en] at hn;refine⟨λx hx=>?_,λ_=>⟨(1,0),hj0 hn⟩⟩;rw[Bs] at hx;simp_all
  |some n=>
   rw[en] at hn;have hj:=hj _ hn;rw[hj];constructor
   ·intro x hx;split at hx
    ·rename_i hz;cases ek:gC r with
     |none=>rw[ek,Br] at hx;cases hx
     |some ms=>
      rw[ek] at hx;have hx:(if (m9 ms&&oh ms)=true then some (n,ms) else none)=some x:=hx;split at hx
      ·rename_i ho;have:=aO hx;subst this;obtain⟨o1,o2⟩:=(Tc (Le uq ek)).mp ho;rw[j1 ms hz ek o1 o2];rfl
      ·simp_all
    ·simp_all
   ·intro hx;obtain⟨e,ee⟩:=j2 λg=>by
     obtain⟨hz,ms,hk,hs,jR⟩:=g;rw[af hz,hk] at hx;have hx:(if (m9 ms&&oh ms)=true then some (n,ms) else none)=none:=hx;rw[af ((Tc (Le uq hk)).mpr ⟨hs,by assumption⟩)] at hx;simp_all
    exact⟨e,by rw[ee];rfl⟩
def iJ(c:Int):Option Nat:=if c=16 then none else some c.toNat
def Bx:Told→Flags.PlateLine
 |.side s l=>.seen s (eM l)
 |.hoist k=>.hoist (decide (k%2=1)) (decide (k/2=1))
 |.shape k=>.flag k
 |.row l=>.cells (l.map iJ)
def agw(h:0≤x∧x≤255):Flags.cellIn (B x)=if pj.contains x=true then some (iJ ((pj.idxOf x:Nat):Int)) else none:=by
 have:=Bu (p:=λx=>decide (Flags.cellIn (B x)=if pj.contains x=true then some (iJ ((pj.idxOf x:Nat):Int)) else none)) È h;simp_all
theorem agx{l:LI}:a0 l→(l.map B).mapM Flags.cellIn=if l.all Âz=true then some (l.map λb=>iJ ((pj.idxOf b:Nat):Int)) else none:=by
 induction l with
 |nil=>exact @λ_=>rfl
 |cons x r ih=>
  intro h;have ih:=ih λz hz=>h z (aN _ hz);rw[aY,GG,agw (h x gu),ih,qW];by_cases h1:pj.contains x=true
  ·rw[af h1,h1,lF];by_cases h2:r.all Âz=true
   ·rw[af h2,af h2];rfl
   ·rw[ah h2,ah h2];rfl
  ·rw[ah h1];have h1:pj.contains x=false:=by simpa using h1
   rw[h1,kW,ah dZ];rfl
def agy{w:LI}(hw:a0 w):(if (w.map B).length=4 then ((w.map B).mapM Flags.cellIn).map Flags.PlateLine.cells else none)=(jM w).map λl=>Bx (.row l):=by
 unfold jM;rw[aA];by_cases h:w.length=4
 ·rw[af h,af h,agx hw];unfold jx;by_cases h2:w.all Âz=true
  ·rw[af h2,af h2];show some (Flags.PlateLine.cells _)=some (Flags.PlateLine.cells _);rw[cO];rfl
  ·rw[ah h2,ah h2];rfl
 ·rw[ah h,ah h];rfl
def Td(h:ws.contains w=false):bw ws w=none:=by
 unfold bw;grind
def agz(hw:a0 w):fH Ħ=(bw ik w).map λk=>(decide (k%2=1),decide (k/2=1)):=by
 have hs:=aec hw;by_cases h:ik.contains w=true
 ·have h':w∈ik:=by simpa using h
  simp only[ik,bf,my,mz] at h';rcases h' with rfl|rfl|rfl|rfl <;> decide+kernel
 ·have h:ik.contains w=false:=by simpa using h
  rw[Td h];simp_all
def agA(hw:a0 w):fF Ħ=bw il w:=by
 have hs:=aed hw;by_cases h:il.contains w=true
 ·have h':w∈il:=by simpa using h
  simp only[il,bf,my,mz] at h';rcases h' with rfl|rfl|rfl|rfl <;> decide+kernel
 ·have h:il.contains w=false:=by simpa using h
  rw[Td h];simp_all
def agB(h:vt c=true):(32:Int)∉c:=λhm=>by
 unfold vt at h;have:=kZ.mp (uQ.mp h).2 32 hm;exact absurd this Ø
def Te:vt c=(ib c).isSome:=by
 unfold vt ib jx;grind
def agC(hs:s∈[0,1,2]):(32:Int)∉JM.dy s:=by
 have:s=0∨s=1∨s=2:=by simpa using hs
 rcases this with rfl|rfl|rfl <;> decide+kernel
def agD(hs:s∈[0,1,2])(hc:(32:Int)∉c):aI 32 (jw++32::(JM.dy s++32::c))=[jw,JM.dy s,c]:=by
 rw[RO 32 _ (show(32:Int)∉jw by decide),RO 32 _ (agC hs),ad6 32 hc]
def agE(hs:s∈[0,1,2]):bw uf (JM.dy s)=some s:=by
 have:s=0∨s=1∨s=2:=by simpa using hs
 rcases this with rfl|rfl|rfl <;> decide+kernel
def agF(h:bw ws w=some i):ws[i]? =some w:=by
 unfold bw at h;obtain⟨h1,h2,_⟩:=OI.mp h;simp_all
def agG(hw:a0 w):(match [0,1,2].find? (pS Ħ) with
  |some s=>(Flags.lookIn ((w.map B).drop (6+(Flags.sideWord s).length))).map λ(x:Nat)=>Flags.PlateLine.seen s x
  |none=>none)=(HD.dy w).map (λx=>Bx (.side x.1 x.2))∧([0,1,2].find? (pS Ħ)=none↔HD.dy w=none):=by
 have up:∀s∈[0,1,2],pS Ħ s=true→∃c l,w=jw++32::(JM.dy s++32::c)∧ib c=some l∧HD.dy w=some (s,l):=λs hs hp=>by
  obtain⟨c,e,hc⟩:=(RR hw hs).mp hp;have h32:=agB hc;rw[Te] at hc;obtain⟨l,hl⟩:=Gs.mp hc;refine⟨c,l,e,hl,?_⟩;unfold HD.dy;rw[e,agD hs h32];dsimp only;rw[af rfl,agE hs,hl]
 cases ef:[0,1,2].find? (pS Ħ) with
 |some s=>
  have hs:=List.mem_of_find?_eq_some ef;obtain⟨c,l,e,hl,es⟩:=up s hs (List.find?_some ef);refine⟨?_,⟨λz=>(by cases z),λz=>Ç⟩⟩;rw[es];show Option.map _ _=some (Flags.PlateLine.seen s (eM l));obtain⟨e2,_,_⟩:=RQ s hs;have ed:(w.map B).drop (6+(Flags.sideWord s).length)=c.map B:=by
   rw[e2,aA,←OE];congr 1;have e1:w=preOf (JM.dy s)++c:=by
    rw[e];unfold preOf;simp
   have el:(preOf (JM.dy s)).length=6+(JM.dy s).length:=by
    unfold preOf;simp[jw];omega
   grind
  have Ja:a0 c:=λx hx=>hw x Ç;rw[ed,SY Ja,hl];rfl
 |none=>
  have hn:HD.dy w=none:=by
   cases es:HD.dy w with
   |none=>rfl
   |some x=>
    exfalso;unfold HD.dy at es;split at es
    ·rename_i a b c ec;split at es
     ·rename_i ea;cases e1:bw uf b with
      |none=>simp_all
      |some s=>
       cases e2:ib c with
       |none=>simp_all
       |some l=>
        have hb:=agF e1;have HV:s<3:=(bH.mp hb).1;have hs:s∈[0,1,2]:=by
         grind
        have vk:b=JM.dy s:=by
         unfold JM.dy;simp_all
        have hw2:w=jw++32::(JM.dy s++32::c):=by
         have g:=ad8 32 w;rw[ec,ea,vk] at g;exact g.symm
        have hp:=(RR hw hs).mpr ⟨c,hw2,by rw[Te,e2];rfl⟩;grind
     ·simp_all
    ·simp_all
  simp_all
def agJ{w:LI}(hw:a0 w):Flags.plateLine Ħ=(jN w).map Bx:=by
 rw[aee,agz hw,agA hw,agy hw];obtain⟨s1,s2⟩:=agG hw;unfold jN;cases ef:[0,1,2].find? (pS Ħ) with
 |some s=>
  rw[ef] at s1 s2;dsimp only at s1⊢;cases es:HD.dy w with
  |none=>exact absurd (s2.mpr es) Â
  |some x=>
   rw[es] at s1;exact s1
 |none=>
  rw[s2.mp ef];dsimp only;cases e1:bw ik w with
  |some k=>rfl
  |none=>
   cases e2:bw il w with
   |some k=>rfl
   |none=>
    show(jM w).map _=_;cases jM w <;> rfl
def ie(s:Nat×LI):Flags.Seen:=Flags.seenOf s.1 (s.2.map iJ)
def iX(g:iC):Flags.Glimpse:=⟨g.above,g.below,g.flags.map ie⟩
def om(m:gi):Flags.Plate:=⟨eM m.classes,m.side,m.ak.map iX⟩
inductive Open:gi→Flags.PlateState→Prop
 |ur {m:gi} {s:Flags.PlateState}:s.flag=none→s.hoists=m.ak.map iX→(∀g∈m.ak,∀f∈g.flags,f.2.length=16)→Open m s
 |opened {m:gi} {s:Flags.PlateState} (gs:List iC) (a b:Bool) (fs:List (Nat×LI)) (k:Nat) (cs:LI):m.ak=gs++[⟨a,b,fs++[(k,cs)]⟩]→s.flag=some (k,cs.map iJ)→s.hoists=gs.map iX++[⟨a,b,fs.map ie⟩]→
   cs.length<16→cs.length%4=0→(∀g∈gs,∀f∈g.flags,f.2.length=16)→(∀f∈fs,f.2.length=16)→Open m s
structure zm(m:gi)(s:Flags.PlateState):Prop where
 head:s.head=if m.classes=[] then none else some (m.side,eM m.classes)
 op:Open m s
 hd:m.classes=[]→m.ak=[]
theorem EW{m:gi}(h:∀g∈m.ak,∀f∈g.flags,f.2.length=16):jy m=false:=by
 unfold jy;cases e:m.ak.getLast? with
 |none=>rfl
 |some g=>
  dsimp only;cases e2:g.flags.getLast? with
  |none=>rfl
  |some f=>
   dsimp only;rw[h g (CW e) f (CW e2)];rfl
def agK(l:List α)(x:α):(l++[x]).getLast?=some x:=by simp
def EX(h:m.ak=gs++[⟨a,b,fs++[(k,cs)]⟩])(hl:cs.length<16):jy m=true:=by
 unfold jy;simp_all
def Li(f:α→β)(l:List α):(l.map f).getLast?=l.getLast?.map f:=by
 simp
theorem Tf(s:Flags.Seen)(g:Flags.Glimpse):∀l:List Flags.Glimpse,Flags.putFlag s (l++[g])=l++[{g with flags:=g.flags++[s]}]
 |[]=>rfl
 |[x]=>rfl
 |x::y::r=>by
  show x::Flags.putFlag s (y::r++[g])=_;rw[Tf s g (y::r)];rfl
def Tg:Told→Prop
 |.side _ l=>l.length=16
 |.row l=>l.length=4
 |_=>True
def agL{m:gi}{s:Flags.PlateState}(r:zm m s){t:Told}(ht:Tg t):
  (dj m t.sort=true→∃s',s.line (Bx t)=some s'∧zm (qD m t) s')∧(dj m t.sort=false→s.line (Bx t)=none):=by
 obtain⟨hh,ho,hd⟩:=r;have agM:m.classes≠[]→s.head.isSome=true:=λhc=>by rw[hh,ah hc];rfl
 have agN:m.classes=[]→s.head=none:=λhc=>by rw[hh,af hc]
 have emp:m.classes.isEmpty=true↔m.classes=[]:=by simp
 have EY:m.classes.isEmpty=false↔m.classes≠[]:=by simp
 have opn:m.classes=[]→s.flag=none∧s.hoists=[]:=λhc=>by
  have hg:=hd hc;cases ho with
  |ur h1 h2 _=>simp_all
  |opened gs a b fs k cs h1=>simp_all
 have e4:Flags.MOST=4:=rfl;have e8:Flags.LONG=8:=rfl;cases t with
 |side sd l=>
  show(dj m 0=true→_)∧(dj m 0=false→_);have em:dj m 0=m.classes.isEmpty:=by unfold dj;simp
  rw[em];show(_→∃s',(if s.head=none then some {s with head:=some (sd,eM l)} else none)=some s'∧_)∧(_→(if s.head=none then some {s with head:=some (sd,eM l)} else none)=none);constructor
  ·intro h;have hc:=emp.mp h;obtain⟨o1,o2⟩:=opn hc;refine⟨_,af (agN hc),?_⟩;have hl:l≠[]:=λz=>by
    have hh:l.length=16:=ht;simp_all
   refine⟨?_,.ur o1 (by show s.hoists=m.ak.map iX;rw[o2,hd hc];rfl) (λg hg=>by rw[show(qD m (.side sd l)).ak=m.ak from rfl,hd hc] at hg;simp at hg),λz=>absurd z hl⟩;show some (sd,eM l)=if l=[] then none else some (sd,eM l);simp_all
  ·simp_all
 |hoist k=>
  show(dj m 1=true→∃s',(if s.head.isSome=true∧s.flag=none∧s.hoists.length<Flags.MOST∧(match s.hoists.getLast? with
   |some g=>!g.flags.isEmpty
   |none=>true)=true then some {s with hoists:=s.hoists++[(⟨decide (k%2=1),decide (k/2=1),[]⟩:Flags.Glimpse)]} else none)=some s'∧_)∧(dj m 1=false→(if s.head.isSome=true∧s.flag=none∧s.hoists.length<Flags.MOST∧(match s.hoists.getLast? with
   |some g=>!g.flags.isEmpty
   |none=>true)=true then some {s with hoists:=s.hoists++[(⟨decide (k%2=1),decide (k/2=1),[]⟩:Flags.Glimpse)]} else none)=none)
  by_cases hc:m.classes=[]
  ·have em:dj m 1=false:=by unfold dj;simp[hc]
   simp_all
  ·have ko:=EY.mpr hc;cases ho with
   |opened gs a b fs kk cs h1 h2 h3 h4 h5 h6 h7=>
    have em:dj m 1=false:=by unfold dj;simp[ko,EX h1 h4]
    simp_all
   |ur h1 h2 h3=>
    have em:dj m 1=(decide (m.ak.length<4)&& !kG m):=by unfold dj;simp[ko,EW h3]
    have el:(match s.hoists.getLast? with
     |some g=>!g.flags.isEmpty
     |none=>true)=!kG m:=by
     unfold kG;rw[h2,Li];cases m.ak.getLast? with
     |none=>rfl
     |some g=>
      show(!(g.flags.map ie).isEmpty)=!g.flags.isEmpty;cases g.flags <;> rfl
    rw[em,el];have agP:(s.head.isSome=true∧s.flag=none∧s.hoists.length<Flags.MOST∧(!kG m)=true)↔(decide (m.ak.length<4)&& !kG m)=true:=by
     simp_all
    constructor
    ·intro h;refine⟨_,af (agP.mpr h),?_⟩;refine⟨?_,.ur h1 ?_ ?_,λz=>absurd z hc⟩
     ·show s.head=if m.classes=[] then none else some (m.side,eM m.classes);omega
     ·show s.hoists++_=(m.ak++[_]).map iX;rw[h2,bV];rfl
     ·intro g hg;rcases gK.mp hg with hg|hg
      ·grind
      ·simp_all
    ·simp_all
 |shape k=>
  show(dj m 2=true→∃s',(if s.head.isSome=true∧s.flag=none∧(match s.hoists.getLast? with
   |some g=>decide (g.flags.length<Flags.LONG)
   |none=>false)=true then some {s with flag:=some (k,[])} else none)=some s'∧_)∧(dj m 2=false→(if s.head.isSome=true∧s.flag=none∧(match s.hoists.getLast? with
   |some g=>decide (g.flags.length<Flags.LONG)
   |none=>false)=true then some {s with flag:=some (k,[])} else none)=none)
  by_cases hc:m.classes=[]
  ·have em:dj m 2=false:=by unfold dj;simp[hc]
   simp_all
  ·have ko:=EY.mpr hc;cases ho with
   |opened gs a b fs kk cs h1 h2 h3 h4 h5 h6 h7=>
    have em:dj m 2=false:=by unfold dj;simp[ko,EX h1 h4]
    simp_all
   |ur h1 h2 h3=>
    have em:dj m 2=(match m.ak.getLast? with
     |some g=>decide (g.flags.length<8)
     |none=>false):=by
     unfold dj;rw[ko,EW h3];rfl
    have el:(match s.hoists.getLast? with
     |some g=>decide (g.flags.length<Flags.LONG)
     |none=>false)=(match m.ak.getLast? with
     |some g=>decide (g.flags.length<8)
     |none=>false):=by
     rw[h2,Li];cases m.ak.getLast? with
     |none=>rfl
     |some g=>
      show decide ((g.flags.map ie).length<8)=decide (g.flags.length<8);rw[aA]
    rw[em,el];constructor
    ·intro h;refine⟨_,af ⟨agM hc,h1,h⟩,?_⟩;rcases pE m.ak with e|⟨gs,g,e⟩
     ·simp_all
     ·refine⟨hh,.opened gs g.above g.below g.flags k [] ?_ rfl ?_ Ø Ø ?_ ?_,λz=>absurd z hc⟩
      ·show m.ak.dropLast++(m.ak.getLast?.map _).toList=_;simp_all
      ·rw[h2,e,bV];rfl
      ·grind
      ·grind
    ·simp_all
 |row l=>
  have Kz:l.length=4:=ht;show(dj m 3=true→∃s',(match s.flag with
   |some (k,mm)=>if (mm++l.map iJ).length=16 then some {s with hoists:=Flags.putFlag (Flags.seenOf k (mm++l.map iJ)) s.hoists,flag:=none} else some {s with flag:=some (k,mm++l.map iJ)}
   |none=>none)=some s'∧_)∧(dj m 3=false→(match s.flag with
   |some (k,mm)=>if (mm++l.map iJ).length=16 then some {s with hoists:=Flags.putFlag (Flags.seenOf k (mm++l.map iJ)) s.hoists,flag:=none} else some {s with flag:=some (k,mm++l.map iJ)}
   |none=>none)=none)
  cases ho with
  |ur h1 h2 h3=>
   have em:dj m 3=false:=by
    unfold dj;by_cases hc:m.classes=[]
    ·simp_all
    ·simp[EY.mpr hc,EW h3]
   simp_all
  |opened gs a b fs kk cs h1 h2 h3 h4 h5 h6 h7=>
   have hc:m.classes≠[]:=λz=>by have:=hd z;rw[h1] at this;simp at this
   have em:dj m 3=true:=by unfold dj;simp[EY.mpr hc,EX h1 h4]
   rw[em,h2];refine⟨λ_=>?_,λz=>(by cases z)⟩;dsimp only;have ep:(qD m (.row l)).ak=gs++[⟨a,b,fs++[(kk,cs++l)]⟩]:=by
    show m.ak.dropLast++(m.ak.getLast?.map _).toList=_;simp_all
   have ec:cs.map iJ++l.map iJ=(cs++l).map iJ:=by rw[bV]
   rw[ec,aA,mw,Kz];by_cases qH:cs.length+4=16
   ·rw[af qH];refine⟨_,rfl,hh,.ur rfl ?_ ?_,λz=>absurd z hc⟩
    ·have eg:iX ⟨a,b,fs++[(kk,cs++l)]⟩=⟨a,b,fs.map ie++[Flags.seenOf kk ((cs++l).map iJ)]⟩:=by
      unfold iX;rw[bV];rfl
     rw[h3,Tf,ep,bV (f:=iX),aY,lE,eg]
    ·grind
   ·rw[ah qH];refine⟨_,rfl,hh,.opened gs a b fs kk (cs++l) ep rfl h3 ?_ ?_ h6 h7,λz=>absurd z hc⟩
    ·grind
    ·simp_all
end HD
end
section
namespace HD
open PySem PySem.Spec PyProof.Rows L2
open PySem.W (Codec)
abbrev nv(l:LN):LI:=l.map λn=>((n:Nat):Int)
def fg:gS:=⟨0,[],0,0,0,[]⟩
def nh{l:LN}{i:Nat}{y:V}(h:Çl[i]? =some y):∃z,l[i]? =some z∧y=V.int (z:Nat):=by
 obtain⟨z,hz,e⟩:=rS h;rw[bX] at hz;cases q:l[i]? with
 |none=>rw[q] at hz;cases hz
 |some n=>
  rw[q] at hz;have:=aO hz;subst this;exact⟨n,rfl,e⟩
def jB(l:LN):(nv l).length=l.length:=by unfold nv;rw[aA]
def By(h:aU H Ãd):H l.a=some (.ins CL l.dx (EB l)):=h (l.a,_) (by simp[rY])
def agQ(h:aU H Ãd):H l.kl=some (.lst (l.kinds.map λk=>V.ref k.a)):=h (l.kl,_) (by simp[rY])
def agR(h:aU H Ãd):aU H (zc CK l.kinds):=λx hx=>h x (by unfold rY;exact aN _ (aN _ (aN _ hx)))
def Th{α:Type}{l:List α}(h:l.length=1):∃a,l=[a]:=List.length_eq_one_iff.mp h
def Ti{α:Type}{l:List α}(h:l.length=2):∃a b,l=[a,b]:=by
 obtain⟨a,l,rfl⟩:=XE h;obtain⟨b,rfl⟩:=Th (XF h);exact⟨a,b,rfl⟩
def Tj{α:Type}{l:List α}(h:l.length=3):∃a b c,l=[a,b,c]:=by
 obtain⟨a,l,rfl⟩:=XE h;obtain⟨b,c,rfl⟩:=Ti (XF h);exact⟨a,b,c,rfl⟩
def agS{α:Type}{l:List α}(h:l.length=4):∃a b c d,l=[a,b,c,d]:=by
 obtain⟨a,l,rfl⟩:=XE h;obtain⟨b,c,d,rfl⟩:=Tj (XF h);exact⟨a,b,c,d,rfl⟩
def lu(K:FR)(C:Addr)(fs:LS):Prop:=kh K C∧∀f∈fs,ϧ f
def qI(c:Nat):Nat:=c-c%4+4-1-c%4
inductive Lj(vs:aq)(H:Hp)(Q:VK)(E':XK):Prop
 |mk (c:Nat) (_:vs=[.int (c:Nat)]) (_:Q (.int (qI c:Nat)) H)
def r6(look classes:LI)(side:Nat):LI:=if side=1 then (List.range 16).map (λc=>classes.getD (look.getD (qI c) 0).toNat 0) else look.map λx=>classes.getD x.toNat 0
inductive To(K:FR)(vs:aq)(H:Hp)(Q:VK)(E':XK):Prop
 |mk (al ac:Addr) (look classes:LI) (side:Nat) (_:vs=[.ref al,.ref ac,.int (side:Nat)]) (_:ß al (iv look)) (_:iI look) (_:ß ac (iv classes)) (_:classes.length=16) (_:∀H' p,ϡ (.lst (iv (r6 look classes side)))→Q Ģ H')
def Tp{D:Addr}{ys:aq}{H:Hp}{α:Type}{L:List α}{g:α→Int}(hd:H D=some Âb)(e:ys=L.map λx=>V.int (g x)):H D=some (.lst (iv (L.map g))):=by
 simp_all
def xD{l:LI}{i:Nat}(h:i<l.length):(iv l)[i]? =some (.int (l.getD i 0)):=by
 simp_all
section
variable{P:Pg}{w:Wd}{K:FR}{mg:MG}{base:Heap}{CK CL CS N CV:Addr}{C:Cs}
def agT:bC ["cell"] ["cell"] (a7 Jc):=cu
def agU(F:br K "cell_behind" "cell_behind" Jc f fd)(cR:Cn mg "ROW" (.int 4)):Ê aE 1 f fd ["cell"] Lj:=by
 refine F.ok agT À;obtain⟨c,rfl,k⟩:=h;refine⟨_,aD (aZ (eP qk (eP qk (eP qj (eP qk Ù (eP Ht Ù (b7 cR))) (b7 cR)) bh) (eP Ht Ù (b7 cR)))),?_⟩;refine⟨_,rfl,_,rfl,_,_,rfl,rfl,Ä,_,_,rfl,rfl,_,_,rfl,rfl,_,_,rfl,rfl,_,rfl,_,_,rfl,rfl,Ä,_,_,rfl,rfl,?_⟩;have e:((c:Int)-(c:Int)%4+4-1-(c:Int)%4)=((qI c:Nat):Int):=by unfold qI;omega
 simp_all
def Tq{c:Nat}(h:c<16):qI c<16:=by unfold qI;omega
def Bz:bC ["look","classes","side","cell","colour"] ["look","classes","side"] (a7 Jd):=cu
def agV{f:Addr}{fd:FD}(F:br K "cells_seen" "cells_seen" Jd f fd)(tR:mg "range"=none)(cB:Cn mg "BEHIND" Ŝ)(cC:Cn mg "CELLS" (.int 16))(dB:Å 1 "cell_behind" ["cell"] Lj):Ê aE 2 f fd ["look","classes","side"] (To K):=by
 refine F.ok Bz À;obtain⟨al,ac,look,classes,side,rfl,hL,pL,hC,Tr,k⟩:=h;refine⟨_,aB (dq (cI hJ è (b7 cB) (bT _)) (aD (aZ (eB (own:=[("cell",3)]) (te:=bQ ύ ϖ (bQ ύ ώ (gY Lj [] E0 Ân))) rfl Bz.nd (Hm Ò tR (ae (b7 cC) ag)) É
   (λ_ _ _ _ _=>dv 3 Bz.nd) Ó (λ_ _ _ _ _=>cA cQ á (cA cQ Ù (bz dB Ĳ) Õ) Õ)))) d7)
  (aD (aZ (eB (own:=[("colour",4)]) (te:=bQ ύ ϖ Ãi) rfl Bz.nd Åa É
   (λ_ _ _ _ _=>dv 4 Bz.nd) Ó (λ_ _ _ _ _=>cA cQ á ı Õ)))),?_⟩
 have q:=k;unfold r6 at q;refine Ő;rw[show V.int 1=V.int ((1:Nat):Int) from rfl,lK];have Ts:∀x,0≤x→x<16→o4 (iv classes) x=some (.int (classes.getD x.toNat 0)):=λx h0 h1=>by
  obtain⟨n,rfl⟩:∃n:Nat,x=(n:Int):=⟨x.toNat,by omega⟩;exact fZ (xD Ä)
 refine a9 Í Í
 ·simp at hc;rw[af hc] at q;refine⟨16,rfl,by decide,by decide,λD hD=>Dx (lo:=0) (n:=16) (cw H D λi y ns=>ns=[]∧y=.int (classes.getD (look.getD (qI i) 0).toNat 0)) ć Âd ø⟩
  ·have hb:=Tq hi;obtain⟨g0,g1⟩:=pL.2 _ (getD_mem (l:=look) (i:=qI i) (by rw[pL.1];exact hb));refine⟨rfl,eJ ⟨_,rfl,_,rfl,_,rfl,i,?_,?_⟩⟩
   ·simp
   ·exact⟨al,_,_,.int (look.getD (qI i) 0),rfl,rfl,f.same.seq hL,fZ (xD (by rw[pL.1];exact hb)),ac,_,_,_,rfl,rfl,f.same.seq hC,Ts _ g0 g1,(f.step hD Ä ĸ ⟨rfl,rfl⟩ aU.nil Â)⟩
  ·obtain⟨ys,s1,fq,eW,fl⟩:=f.end;refine q H' D ⟨s1,hD,Tp fq (um (by assumption) λi y x h1 h2=>?_)⟩;obtain⟨ns,⟨_,e⟩,_⟩:=fl i y h1;grind
 ·simp at hc;rw[ah hc] at q;refine⟨_,rfl,al,rfl,⟨_,hL⟩,λD hD=>gy (K:=K) (a:=al) (xs:=iv look) (cw H D λi y ns=>ns=[]∧∃x,look[i]? =some x∧y=.int (classes.getD x.toNat 0)) ć (λi H' _ f=>f.same.seq hL) ĉ ø⟩
  ·obtain⟨z,hz,rfl⟩:=rS hi;have dY:=(bH.mp hz).1;have qH:=pL.1;obtain⟨g0,g1⟩:=pL.2 z (bY hz);exact⟨rfl,eJ ⟨_,rfl,_,rfl,ac,_,_,_,rfl,rfl,f.same.seq hC,Ts z g0 g1,(f.step hD Ä ĸ ⟨rfl,z,hz,rfl⟩ aU.nil Â)⟩⟩
  ·obtain⟨ys,s1,fq,eW,fl⟩:=f.end;rw[eX] at eW;refine q H' D ⟨s1,hD,Tp fq (um eW λi y x h1 h2=>?_)⟩;obtain⟨ns,⟨_,z,e1,e⟩,_⟩:=fl i y h1;simp_all
inductive Lk(K:FR)(C:Cs)(CK:Addr)(vs:aq)(H:Hp)(Q:VK)(E':XK):Prop
 |mk (k:az) (ac:Addr) (classes:LI) (side:Nat) (_:vs=[.ref k.a,.ref ac,.int (side:Nat)]) (_:aU H (jQ CK k)) (_:iI k.m.look) (_:ß ac (iv classes)) (_:classes.length=16) (_:∀H' s,ai H H'→s.shape=k.m.shape→s.cells=r6 k.m.look classes side→aU H' (ic C s)→(∀x∈ic C s,H x.1=none)→Q (.ref s.a) H')
def agW:bC ["kind","classes","side"] ["kind","classes","side"] (a7 JE):=cu
def agX(F:br K "sighting_of" "sighting_of" JE f fd)(T:rW K CK)(dS:ÿ "Sighting" C.S ["shape","cells"])(dC:Å 2 "cells_seen" ["look","classes","side"] (To K)):
  a8 P w K mg base aE 3 f fd ["kind","classes","side"] (Lk K C CK):=by
 refine F.ok agW À;obtain⟨z,ac,classes,side,rfl,hz,pL,hC,Tr,k⟩:=h;refine⟨_,aD (aZ (pF dS hr (ae ë (ae (bz dC (ae ë (ae á ţ))) ag)))),?_⟩;refine⟨_,rfl,bo (ji hz) T.c T.yX (SD z) ⟨_,rfl,bo (ji hz) T.c T.SG (SE z) ⟨_,rfl,_,rfl,z.lk,ac,z.m.look,classes,side,rfl,aa.of (SS hz),pL,hC,Tr,λH1 pc hN=>?_⟩⟩⟩;refine vD rfl λx dx H2 hx iV aQ e2 s2=>?_;refine k H2 ⟨x,dx,pc,z.m.shape,_⟩ (hN.1.trans s2) rfl rfl Áp λy hy=>?_
 ·simp only[ic,bf,my,mz] at hy;rcases hy with rfl|rfl
  ·exact e2
  ·exact s2 _ _ hN.2.2
 ·simp only[ic,bf,my,mz] at hy;rcases hy with rfl|rfl
  ·exact hN.1.free hx
  ·exact hN.2.1
end
def EZ{D:Addr}{ys:aq}{H:Hp}{n:Nat}{b:Nat→Bool}(hd:H D=some Âb)(hl:ys.length=n)(h:∀(i:Nat)(y:V),ys[i]? =some y→y=.bl (b i)):H D=some (.lst (((List.range n).map b).map V.bl)):=by
 have e:ys=(List.range n).map (V.bl∘b):=um (by rw[hl,gX]) λi y x h1 h2=>by
  rw[h i y h1,xp h2];rfl
 rw[hd,cO,e]
def vL(h w:LI)(i:Nat):Bool:=decide (h.getD i 0=16)||decide (h.getD i 0=w.getD i 0)
def vM(h w:Nat×LI):Bool:=if h.1≠3∧h.1≠w.1 then false else (List.range h.2.length).all (vL h.2 w.2)
inductive Ll(C:Cs)(vs:aq)(H:Hp)(Q:VK)(E':XK):Prop
 |mk (a b:eC) (_:vs=[.ref a.a,.ref b.a]) (_:Lies H (ic C a)) (_:Lies H (ic C b)) (_:a.cells.length≤b.cells.length) (_:a.cells.length≤100) (_:∀H',ai H H'→Q (.bl (vM a.m b.m)) H')
section
variable{P:Pg}{w:Wd}{K:FR}{mg:MG}{base:Heap}{CK CL CS N CV:Addr}{C:Cs}
def Lm:bC ["half","whole","cell","seen"] ["half","whole"] (a7 JI):=cu
def agY{f:Addr}{fd:FD}(F:br K "may_be" "may_be" JI f fd)(T:lW K C)(tA:mg "all"=none)(tE:mg "enumerate"=none)(cU:Cn mg "UNSEEN_SHAPE" (.int 3))(cX:Cn mg "UNSEEN_CELL" (.int 16)):
  a8 P w K mg base aE 1 f fd ["half","whole"] (Ll C):=by
 refine F.ok Lm À;obtain⟨a,b,rfl,ha,hb,hl,je,k⟩:=h;refine⟨_,aB (dq (PW.pt (pw_and (cI u0 ë (b7 cU) (bT _)) (pw_and1 (cI u0 ë ğ (bT _))))) Âa d7)
  (aD (aZ (c6 Äm Ò tA ye (ae (eB (own:=[("cell",2),("seen",3)]) (g:=g2 K 2 3) (te:=Hi (bQ nW Ŗ (tC (.int 16))) (bQ nW Ŗ (bQ ύ (fY K ϖ "cells") ŗ))) rfl Lm.nd
   (ku Ò tE Æp) É
   (λ_ _ _ _ _=>iB 2 3 Lm.nd) Ó
   (λ_ _ _ _ _=>O5 (jt hJ õ (b7 cX) (bT _)) (rq (jt hJ õ (cA cQ ğ è Õ) (bT _))))) ag)))),?_⟩
 have em:vM a.m b.m=if a.shape≠3∧a.shape≠b.shape then false else (List.range a.cells.length).all (vL a.cells b.cells):=rfl;rw[em] at k;refine and_val (!decide (a.shape=3)) (!decide (a.shape=b.shape)) (λK h=>⟨_,rfl,bo ha.sa T.cS T.yX (Kj a) ĝ⟩) (λ_ K h=>⟨_,rfl,bo ha.sa T.cS T.yX (Kj a) ⟨_,rfl,bo hb.sa T.cS T.yX (Kj b) ĝ⟩⟩) (a9 Í Í)
 ·rw[show V.int 3=V.int ((3:Nat):Int) from rfl,lK];exact h
 ·rw[lK];exact h
 ·rw[af Ç] at k;exact k H Ÿ
 ·rw[ah (by grind)] at k;have gE:=ha.sl;refine⟨_,rfl,bo ha.sa T.cS T.Ek (Ej a) ⟨a.l,_,rfl,aa.of gE,λD hD=>lj (K:=K) (a:=a.l) (xs:=iv a.cells) (cw H D λi y ns=>ns=[]∧y=.bl (vL a.cells b.cells i)) ć (λi H' _ f=>aa.of (f.same _ _ gE)) ŉ ø⟩⟩
  ·obtain⟨z,hz,rfl⟩:=rS hi;have dY:=(bH.mp hz).1;have s1:ai H' (Ϡ (.tup [.int (i:Nat),.int z])):=aK hT;have s2:=f.same.trans s1;refine Ü;refine Ri (decide (z=16)) (decide (z=b.cells.getD i 0)) (λK h=>⟨_,rfl,rfl,?_⟩) (λ_ K h=>⟨_,rfl,_,rfl,bo (s2 _ _ hb.sa) T.cS T.Ek (Ej b) ⟨_,rfl,b.l,_,_,.int (b.cells.getD i 0),rfl,rfl,aa.of (s2 _ _ hb.sl),fZ (xD Ä),rfl,?_⟩⟩) ?_
   ·simp_all
   ·simp_all
   ·refine f.step hD Ä s1 Ŕ aU.nil Â;unfold vL;simp_all
  ·obtain⟨ys,s1,fq,eW,fl⟩:=f.end;rw[eX] at eW;refine⟨D,(List.range a.cells.length).map (vL a.cells b.cells),rfl,aa.of (EZ fq eW λi y e=>?_),?_⟩
   ·obtain⟨ns,⟨_,e⟩,_⟩:=fl i y e;omega
   ·simp_all
end
structure cK where
 a:Addr
 ns:LN
structure b9 where
 a:Addr
 ls:List cK
def lsN(x:cK):jg:=[(x.a,.lst (iv (nv x.ns)))]
def eQ(y:b9):jg:=(y.a,.lst (y.ls.map λx=>V.ref x.a))::y.ls.flatMap lsN
def b9.m(y:b9):bq:=y.ls.map cK.ns
def iY(H:Hp)(ns:jg):Prop:=∀x∈ns,H x.1=none
def BA(h:aU H (lsN x)):H x.a=some Ż:=h (x.a,_) (by simp[lsN])
def jC(h:aU H Æk):H y.a=some (.lst (y.ls.map λx=>V.ref x.a)):=h (y.a,_) (by simp[eQ])
def l6(h:aU H Æk)(hx:x∈y.ls):H x.a=some Ż:=BA λz hz=>h z (by unfold eQ;exact aN _ (j7.mpr ⟨x,hx,hz⟩))
def Tv{H:Hp}{a:Addr}{ls:List cK}(h:H a=some (.lst (ls.map λx=>V.ref x.a)))(h2:∀x∈ls,aU H (lsN x)):aU H (eQ ⟨a,ls⟩):=λz hz=>by
 rcases bf.mp hz with rfl|hz
 ·exact h
 ·obtain⟨x,hx,hz⟩:=j7.mp hz;exact h2 x hx z hz
def BB{H:Hp}{a:Addr}{ls:List cK}(h:H a=none)(h2:∀x∈ls,iY H (lsN x)):iY H (eQ ⟨a,ls⟩):=λz hz=>by
 rcases bf.mp hz with rfl|hz
 ·exact h
 ·obtain⟨x,hx,hz⟩:=j7.mp hz;exact h2 x hx z hz
theorem iu{α:Type}{a:α→Addr}{l:List α}{i:Nat}{y:V}(h:(l.map λk=>V.ref (a k))[i]? =some y):∃z,l[i]? =some z∧y=V.ref (a z):=by
 rw[bX] at h;cases e:l[i]? with
 |none=>rw[e] at h;cases h
 |some z=>rw[e] at h;exact⟨z,rfl,(aO h).symm⟩
def Ln{α β:Type}{bs:List α}{m:α→β}{l:List β}(hl:bs.length=l.length)(h:∀(i:Nat)(b:α)(x:β),bs[i]? =some b→l[i]? =some x→m b=x):bs.map m=l:=by
 apply wm;grind
def BC(i:Nat):(List.range (i+1)).filter p=(List.range i).filter p++(if p i=true then [i] else []):=by
 rw[GQ,CY];grind
def agZ(i:Nat):((List.range i).filter p).length≤i:=by
 grind
def lx(H1:Hp)(D:Addr)(p:Nat→Bool)(i:Nat)(H:Hp):Prop:=ai H1 H∧H D=some (.lst (iv (nv ((List.range i).filter p))))
def lx.zero{H1:Hp}{D:Addr}{p:Nat→Bool}(hD:H1 D=none):lx H1 D p 0 Ĉ:=⟨aK hD,ao⟩
def lx.yes(hD:H1 D=none)(hi:i<1000000)(f:lx H1 D p i H)(s:ai H H4)(h:p i=true):jJ D (lx H1 D p (i+1)) (V.int (i:Nat)) H4:=by
 refine⟨_,s _ _ f.2,?_,fh (f.1.trans s) hD,?_⟩
 ·rw[eX,jB];have:=agZ (p:=p) i;exact gQ Ä
 ·rw[ao,BC,af h];simp
def lx.no(f:lx H1 D p i H)(s:ai H H4)(h:¬p i=true):lx H1 D p (i+1) H4:=by
 refine⟨f.1.trans s,?_⟩;rw[BC,ah h,kY];exact s _ _ f.2
def jj(H:Hp)(D:Addr)(g:Nat→LN):Nat→Hp→Prop:=cw H D λi y ns=>∃b:cK,(b.ns=g i∧iY H (lsN b))∧y=.ref b.a∧ns=lsN b
def jj.step{H H' H3:Hp}{D r:Addr}{g:Nat→LN}{i:Nat}(hD:H D=none)(hi:i<1000000)(f:jj H D g i H')(s:ai H' H3)(hr:H' r=none)(e:H3 r=some (.lst (iv (nv (g i))))):
  jJ D (jj H D g (i+1)) (V.ref r) H3:=
 cw.step hD hi f s (ns:=lsN ⟨r,g i⟩) ⟨⟨r,g i⟩,⟨rfl,λx hx=>by
  simp only[lsN,bf,my,mz] at hx;subst hx;exact f.same.free hr⟩,rfl,rfl⟩ (λx hx=>by
  simp only[lsN,bf,my,mz] at hx;subst hx;exact e) (λx hx e=>by
  simp only[lsN,bf,my,mz] at hx;subst hx;exact f.has (by rw[←e];exact hr))
def jj.end{H H':Hp}{D:Addr}{g:Nat→LN}{n:Nat}(hD:H D=none)(f:jj H D g n H'):∃y:b9,y.a=D∧ai H H'∧y.m=(List.range n).map g∧aU H' Æk∧iY H Æk:=by
 obtain⟨ys,s1,fq,eW,fl⟩:=cw.end f;obtain⟨bs,e1,r1,l1⟩:=xu (v:=λb:cK=>V.ref b.a) (nd:=lsN) (R:=λi b=>b.ns=g i∧iY H (lsN b)) fl;subst e1;rw[aA] at eW;refine⟨⟨D,bs⟩,rfl,s1,?_,Tv fq l1,BB hD λb hb=>?_⟩
 ·refine Ln (by rw[aA,gX];exact eW) λi b x h1 h2=>?_;rw[bX] at h2;cases e:Èg[i]? with
  |none=>rw[e] at h2;cases h2
  |some j=>
   rw[e] at h2;cases h2;rw[xp e];exact(r1 i b h1).1
 ·obtain⟨i,hi,e⟩:=qY hb;exact(r1 i b (by rw[dm hi,e])).2
theorem vN{α β:Type}{l:List α}{g:α→β}{d:α}:(List.range l.length).map (λi=>g (l.getD i d))=l.map g:=by
 refine Ln (by rw[gX,aA]) λi b x h1 h2=>?_;rw[bX] at h2;cases e:l[i]? with
 |none=>rw[e] at h2;cases h2
 |some z=>
  rw[e] at h2;cases h2;rw[xp h1,getD_at e]
def r9(ls:List (Nat×LI))(h:Nat×LI):LN:=(List.range ls.length).filter λi=>vM h (ls.getD i (0,[]))
def xE(ls:List (Nat×LI))(g:iC):bq:=g.flags.map (r9 ls)
def zo(C:Cs)(H:Hp)(p:Addr)(ls:List eC):Prop:=H p=some (.lst (ls.map λl=>V.ref l.a))∧(∀l∈ls,Lies H (ic C l))∧∀l∈ls,l.cells.length=16
def zo.same{C:Cs}{H H':Hp}{p:Addr}{ls:List eC}(h:zo C H p ls)(s:ai H H'):zo C H' p ls:=⟨s _ _ h.1,λl hl=>(h.2.1 l hl).same s,h.2.2⟩
inductive Lo(C:Cs)(vs:aq)(H:Hp)(Q:VK)(E':XK):Prop
 |mk (p:Addr) (ls:List eC) (h:eC) (_:vs=[.ref p,.ref h.a]) (_:zo C H p ls) (_:ls.length≤100000) (_:Lies H (ic C h)) (_:h.cells.length=16) (_:∀H' r,n9 H H' r (.lst (iv (nv (r9 Äy h.m))))→Q Ãl H')
inductive Lp(C:Cs)(vs:aq)(H:Hp)(Q:VK)(E':XK):Prop
 |mk (p:Addr) (ls:List eC) (g:cg) (_:vs=[.ref p,.ref g.a]) (_:zo C H p ls) (_:ls.length≤100000) (_:Lies H Æh) (_:g.flags.length≤100) (_:(∀s∈g.flags,s.cells.length=16)) (_:∀H' y,ai H H'→b9.m y=xE Äy g.m→aU H' Æk→iY H Æk→Q Àn H')
section
variable{P:Pg}{w:Wd}{K:FR}{mg:MG}{base:Heap}{CK CL CS N CV:Addr}{C:Cs}
def Lq:bC ["looks","half","number","whole"] ["looks","half"] (a7 JH):=cu
def ag0{f:Addr}{fd:FD}(F:br K "kinds_that_look_so" "kinds_that_look_so" JH f fd)(tE:mg "enumerate"=none)(dM:Å 1 "may_be" ["half","whole"] (Ll C)):Ê aE 2 f fd ["looks","half"] (Lo C):=by
 refine F.ok Lq À;obtain⟨p,ls,z,rfl,hp,hl,hz,ag1,k⟩:=h;refine⟨_,aD (aZ (eB (own:=[("number",2),("whole",3)]) (g:=g2 K 2 3) (tt:=tB (gY (Ll C) [] E0 (bg ϖ Ân))) (te:=ay 2) rfl Lq.nd
   (Âi) É
   (λ_ _ _ _ _=>iB 2 3 Lq.nd)
   (λ_ _ _ _ _=>o7 (jr (bz dM (ae á Ĳ)))) Ãs)),?_⟩
 refine⟨_,rfl,p,_,rfl,aa.of hp.1,λD hD=>lj (K:=K) (a:=p) (xs:=ls.map λl=>V.ref l.a) (lx H D λi=>vM z.m ((ls.map eC.m).getD i (0,[]))) (lx.zero hD) (λi H' _ f=>aa.of (f.1 _ _ hp.1)) ŉ ø⟩
 ·obtain⟨l,eW,rfl⟩:=iu hi;have hm:=bY eW;have dY:=(bH.mp eW).1;have s1:ai H' (Ϡ (.tup [.int (i:Nat),.ref l.a])):=aK hT;have s2:=f.1.trans s1;refine ä;refine⟨_,rfl,_,rfl,z,l,rfl,hz.same s2,(hp.2.1 l hm).same s2,by rw[ag1,hp.2.2 l hm];exact bO _,by omega,λH3 s3=>Ď⟩;have e:vM z.m ((ls.map eC.m).getD i (0,[]))=vM z.m l.m:=by rw[getD_map eW]
  refine a9 Í Í
  ·exact⟨_,rfl,f.yes hD Ä Äw (e.trans hc)⟩
  ·exact f.no Äw Ç
 ·have e:=f.2;rw[aA] at e;refine k H' D ⟨f.1,hD,?_⟩;unfold r9;simp_all
def Lr:bC ["looks","glimpse","flag"] ["looks","glimpse"] (a7 JG):=cu
def ag2{f:Addr}{fd:FD}(F:br K "kinds_along" "kinds_along" JG f fd)(T:lW K C)(dM:Å 2 "kinds_that_look_so" ["looks","half"] (Lo C)):Ê aE 3 f fd ["looks","glimpse"] (Lp C):=by
 refine F.ok Lr À;obtain⟨p,ls,g,rfl,hp,hl,hg,ni,ag3,k⟩:=h;have fV:=hg.fl;refine⟨_,aD (aZ (eB (own:=[("flag",2)]) (te:=gY (Lo C) [] E0 (bg ώ (bg ŗ du))) rfl Lr.nd (eV ğ) É
   (λ_ _ _ _ _=>dv 2 Lr.nd) Ó (λ_ _ _ _ _=>bz dM (ae Ù ţ)))),?_⟩
 refine⟨_,rfl,bo hg.ga T.cG T.vz (vy g) ⟨g.l,rfl,⟨_,aa.of fV⟩,λD hD=>gy (K:=K) (a:=g.l) (xs:=g.flags.map λs=>V.ref s.a) (jj H D λi=>r9 Äy ((g.flags.map eC.m).getD i (0,[]))) ć (λi H' _ f=>aa.of (f.same _ _ fV)) ĉ ø⟩⟩
 ·obtain⟨sg,h1,rfl⟩:=iu hi;have hm:=bY h1;have dY:=(bH.mp h1).1;exact⟨rfl,eJ ⟨_,rfl,_,rfl,p,ls,sg,rfl,hp.same f.same,hl,(hg.yW hm).same f.same,ag3 sg hm,λH3 r n3=>(jj.step hD Ä f n3.1 n3.2.1 (by rw[getD_map h1];exact n3.2.2))⟩⟩
 ·obtain⟨y,rfl,s1,em,l1,fr⟩:=jj.end hD f;refine k H' y s1 ?_ l1 fr;rw[em,aA];have:=vN (l:=g.flags.map eC.m) (g:=r9 Äy) (d:=(0,[]));rw[aA] at this;exact this
end
def nj{β:Type}(nd:β→jg)(ad:β→Addr)(R:Nat→β→Prop)(H:Hp)(D:Addr):Nat→Hp→Prop:=cw H D λi y ns=>∃b:β,(R i b∧iY H (nd b))∧y=.ref (ad b)∧ns=nd b
def nj.step{β:Type}{nd:β→jg}{ad:β→Addr}{R:Nat→β→Prop}{H H' H3:Hp}{D:Addr}{i:Nat}(hD:H D=none)(hi:i<1000000)(f:nj nd ad R H D i H')(s:ai H' H3)(b:β)(r:R i b)(l:aU H3 (nd b))(fr:iY H' (nd b)):
  jJ D (nj nd ad R H D (i+1)) (V.ref (ad b)) H3:=
 cw.step hD hi f s (ns:=nd b) ⟨b,⟨r,λx hx=>f.same.free (fr x hx)⟩,rfl,rfl⟩ l (λx hx e=>f.has (by rw[←e];exact fr x hx))
def nj.end{β:Type}{nd:β→jg}{ad:β→Addr}{R:Nat→β→Prop}{H H':Hp}{D:Addr}{n:Nat}(f:nj nd ad R H D n H'):∃bs:List β,bs.length=n∧ai H H'∧H' D=some (.lst (bs.map λb=>V.ref (ad b)))∧(∀(i:Nat)(b:β),bs[i]? =some b→R i b)∧(∀b∈bs,aU H' (nd b))∧∀b∈bs,iY H (nd b):=by
 obtain⟨ys,s1,fq,eW,fl⟩:=cw.end f;obtain⟨bs,e1,r1,l1⟩:=xu (v:=λb:β=>V.ref (ad b)) (nd:=nd) (R:=λi b=>R i b∧iY H (nd b)) fl;subst e1;rw[aA] at eW;refine⟨bs,eW,s1,fq,λi b e=>(r1 i b e).1,l1,λb hb=>?_⟩;obtain⟨i,hi,e⟩:=qY hb;exact(r1 i b (by rw[dm hi,e])).2
def iY.back(h:iY H' ns)(s:ai H H'):iY H ns:=λx hx=>s.free (h x hx)
def E1{α β γ:Type}{bs:List β}{l:List α}{m:β→γ}{g:α→γ}(hl:bs.length=l.length)(h:∀(i:Nat)(b:β)(x:α),bs[i]? =some b→l[i]? =some x→m b=g x):bs.map m=l.map g:=
 Ln (by rw[aA];exact hl) λi b y h1 h2=>by
  rw[bX] at h2;cases e:l[i]? with
  |none=>rw[e] at h2;cases h2
  |some x=>
   rw[e] at h2;cases h2;exact h i b x h1 e
structure uu where
 a:Addr
 dx:Addr
 gl:Addr
 side:Nat
 gs:List b9
def E2(v:uu):List (Str×V):=[("side",.int (v.side:Nat)),("glimpses",.ref v.gl)]
def pN(CV:Addr)(v:uu):jg:=(v.a,.ins CV v.dx (E2 v))::(v.gl,.lst (v.gs.map λg=>V.ref g.a))::v.gs.flatMap eQ
def ag4(v:uu):(E2 v).lookup ("side":Str)=some (.int (v.side:Nat)):=ip
def ag5(v:uu):(E2 v).lookup ("glimpses":Str)=some (.ref v.gl):=(fO È).trans ip
def Tw(h:aU H Åm):H v.a=some (.ins CV v.dx (E2 v)):=h (v.a,_) (by simp[pN])
def ag6(h:aU H Åm):H v.gl=some (.lst (v.gs.map λg=>V.ref g.a)):=h (v.gl,_) (by simp[pN])
def ag7(h:aU H Åm)(hg:g∈v.gs):aU H (eQ g):=λx hx=>h x (by
 unfold pN;exact aN _ (aN _ (j7.mpr ⟨g,hg,hx⟩)))
def oo(classes:LI)(side:Nat)(k:gS):Nat×LI:=(k.shape,r6 k.look classes side)
def pO(ms:aF)(classes:LI)(side:Nat)(gs:List iC):List bq:=gs.map (xE (ms.map (oo classes side)))
structure vO(C:Cs)(H:Hp)(p:eK):Prop where
 l:Lies H Ác
 xF:p.classes.length=16
 c8:p.ak.length≤100
 flags:∀g∈p.ak,g.flags.length≤100
 cells:∀g∈p.ak,∀s∈g.flags,s.cells.length=16
def vO.same{C:Cs}{H H':Hp}{p:eK}(h:vO C H p)(s:ai H H'):vO C H' p:=⟨h.l.same s,h.xF,h.c8,h.flags,h.cells⟩
structure oq(CK:Addr)(H:Hp)(pk:Addr)(ks:List az):Prop where
 a:H pk=some (.lst (ks.map λk=>V.ref k.a))
 l:aU H (zc CK ks)
 c8:ks.length≤100000
 look:∀k∈ks,iI k.m.look
def oq.same{CK:Addr}{H H':Hp}{pk:Addr}{ks:List az}(h:ů ks)(s:ai H H'):oq CK H' pk ks:=⟨s _ _ h.a,h.l.same s,h.c8,h.look⟩
inductive Ls(C:Cs)(CK CV:Addr)(vs:aq)(H:Hp)(Q:VK)(E':XK):Prop
 |mk (pk:Addr) (ks:List az) (p:eK) (side:Nat) (_:vs=[.ref pk,.ref p.a,.int (side:Nat)]) (_:ů ks) (_:vO C H p) (_:∀H' v,ai H H'→v.side=side→v.gs.map b9.m=pO Ë p.classes side ï→aU H' Åm→iY H Åm→Q (.ref v.a) H')
section
variable{P:Pg}{w:Wd}{K:FR}{mg:MG}{base:Heap}{CK CL CS N CV:Addr}{C:Cs}
def zp:bC ["kinds","plate","side","looks","kind","glimpse"] ["kinds","plate","side"] (a7 JF):=cu
def ag8{look classes:LI}{side:Nat}(h:iI look):(r6 look classes side).length=16:=by
 unfold r6;split
 ·rfl
 ·rw[aA,h.1]
def ag9{f:Addr}{fd:FD}(F:br K "view_of" "view_of" JF f fd)(T:lW K C)(dV:ÿ "View" CV ["side","glimpses"])(dS:Å 3 "sighting_of" ["kind","classes","side"] (Lk K C CK))(dA:Å 3 "kinds_along" ["looks","glimpse"] (Lp C)):
  a8 P w K mg base aE 4 f fd ["kinds","plate","side"] (Ls C CK CV):=by
 refine F.ok zp À;obtain⟨pk,ks,p,side,rfl,hk,hp,k⟩:=h;refine⟨_,aB (cq 3 zp.nd (eB (own:=[("kind",4)]) (te:=gY (Lk K C CK) [] E0 (bg Ãi (bg (fY K ϖ "classes") (bg ŗ du)))) rfl zp.nd Åa É
   (λ_ _ _ _ _=>dv 4 zp.nd) Ó (λ_ _ _ _ _=>bz dS (ae ı (ae ğ ţ)))))
  (aD (aZ (pF dV hr (ae è (ae (eB (own:=[("glimpse",5)]) (te:=gY (Lp C) [] E0 (bg Ŗ Èd)) rfl zp.nd (eV ğ) É
   (λ_ _ _ _ _=>dv 5 zp.nd) Ó (λ_ _ _ _ _=>bz dA (ae õ Ť))) ag))))),?_⟩
 refine⟨_,rfl,pk,rfl,⟨_,aa.of hk.a⟩,λD hD=>gy (K:=K) (a:=pk) (xs:=ks.map λk=>V.ref k.a) (nj (ic C) eC.a (λi b=>∀k,ks[i]? =some k→b.m=oo p.classes side k.m∧b.cells.length=16) H D) ć (λi H' _ f=>aa.of (f.same _ _ hk.a)) ĉ ø⟩
 ·obtain⟨z,h1,rfl⟩:=iu hi;have hm:=bY h1;have dY:=(bH.mp h1).1;have hf:=hk.c8;refine⟨rfl,eJ ⟨_,rfl,_,rfl,bo (f.same _ _ hp.l.pl) T.cP T.El (Ki p) ⟨_,rfl,z,p.cl,p.classes,side,rfl,(m8 hk.l hm).same f.same,hk.look z hm,aa.of (f.same _ _ hp.l.cl),hp.xF,λH3 sg s3 e1 e2 ls fr=>?_⟩⟩⟩;refine nj.step hD Ä f s3 sg (λk' kj=>?_) ls fr;rw[h1] at kj;cases kj;refine⟨?_,by rw[e2];exact ag8 (hk.look z hm)⟩;unfold eC.m oo;simp_all
 ·obtain⟨bs,jS,s1,fq,r1,l1,fr1⟩:=nj.end f;rw[aA] at jS;have aha:zo C H' D bs:=⟨fq,λb hb=>l1 b hb,λb hb=>by
   obtain⟨i,hi,e⟩:=qY hb;exact(r1 i b (by grind) ks[i] (dm Ä)).2⟩
  have em:bs.map eC.m=(ks.map az.m).map (oo p.classes side):=by
   rw[cO];exact E1 jS λi b x h1 h2=>(r1 i b h1 x h2).1
  have nM:=hp.same s1;have hf:=hk.c8;refine⟨_,rfl,_,rfl,bo nM.l.pl T.cP T.m5 Åh ⟨p.gl,rfl,⟨_,aa.of nM.l.gl⟩,λD2 cE=>gy (K:=K) (a:=p.gl) (xs:=p.ak.map λg=>V.ref g.a) (nj eQ b9.a (λi b=>∀g,p.ak[i]? =some g→b.m=xE (bs.map eC.m) g.m) H' D2) Ãh (λi H2 _ f=>aa.of (f.same _ _ nM.l.gl)) (λi y H2 hi f=>?_) Åw⟩⟩
  ·obtain⟨g,h1,rfl⟩:=iu hi;have hm:=bY h1;have dY:=(bH.mp h1).1;have Lu:=hp.c8;refine⟨rfl,eJ ⟨_,rfl,_,rfl,D,bs,g,rfl,aha.same f.same,by omega,(nM.l.sub hm).same f.same,hp.flags g hm,hp.cells g hm,λH3 y s3 e1 ls fr=>?_⟩⟩;refine nj.step cE Ä f s3 y (λk' kj=>?_) ls fr;simp_all
  ·obtain⟨gs,ni,s2,fA,r2,l2,fr2⟩:=nj.end f;rw[aA] at ni;refine vD rfl λx dx H3 hx iV aQ e3 s3=>?_;refine k H3 ⟨x,dx,D2,side,gs⟩ (s1.trans ī) rfl ?_ Áp λy hy=>?_
   ·unfold pO;rw[cO,←em];exact E1 ni λi b x h1 h2=>r2 i b h1 x h2
   ·simp only[pN,bf] at hy;rcases hy with rfl|rfl|hy
    ·exact e3
    ·exact s3 _ _ fA
    ·obtain⟨b,hb,hy⟩:=j7.mp hy;exact s3 _ _ (l2 b hb y hy)
   ·simp only[pN,bf] at hy;rcases hy with rfl|rfl|hy
    ·exact(s1.trans s2).free hx
    ·exact s1.free cE
    ·obtain⟨b,hb,hy⟩:=j7.mp hy;exact s1.free (fr2 b hb y hy)
end
def in_nums(x:Nat)(l:LN):u7 (.int (x:Nat)) Çl=l.contains x:=by
 rw[Ke];grind
def E3(h:i<l.length):Çl[i]? =some (.int ((l.getD i 0:Nat):Int)):=by
 simp_all
def iw(y:b9):y.m.length=y.ls.length:=by unfold b9.m;rw[aA]
def BD{y:b9}{i:Nat}{x:cK}(h:y.ls[i]? =some x):y.m.getD i []=x.ns:=by unfold b9.m;rw[getD_map h]
def xG(sV:Nat)(h:LN)(seen:bq):Bool:=(List.range seen.length).all λi=>(seen.getD i []).contains (h.getD (sV+i) 0)
inductive Lv(vs:aq)(H:Hp)(Q:VK)(E':XK):Prop
 |mk (sV:Nat) (h:cK) (y:b9) (_:vs=[.int (sV:Nat),.ref h.a,.ref y.a]) (_:aU H (lsN h)) (_:aU H Æk) (_:sV+y.ls.length≤h.ns.length) (_:y.ls.length≤100) (_:∀H',ai H H'→Q (.bl (xG sV h.ns y.m)) H')
section
variable{P:Pg}{w:Wd}{K:FR}{mg:MG}{base:Heap}{CK CL CS N CV:Addr}{C:Cs}
def Lw:bC ["place","hoist","kinds_seen","number","kinds"] ["place","hoist","kinds_seen"] (a7 JL):=cu
def ahc{f:Addr}{fd:FD}(F:br K "fits_at" "fits_at" JL f fd)(tA:mg "all"=none)(tE:mg "enumerate"=none):Ê aE 1 f fd ["place","hoist","kinds_seen"] Lv:=by
 refine F.ok Lw À;obtain⟨sV,h,y,rfl,hh,hy,j0,yA,k⟩:=h;refine⟨_,aD (aZ (c6 Äm Ò tA ye (ae (eB (own:=[("number",3),("kinds",4)]) (g:=g2 K 3 4) (te:=bQ (Ds K false) (bQ ύ ϖ (bQ ZI ώ Ŗ)) Ãi) rfl Lw.nd
   (ku Ò tE ţ) É
   (λ_ _ _ _ _=>iB 3 4 Lw.nd) Ó
   (λ_ _ _ _ _=>jt HI (cA cQ á (eP qj Ù õ) Õ) ı (by with_unfolding_all rfl))) ag))),?_⟩
 refine⟨_,rfl,y.a,_,rfl,aa.of (jC hy),λD hD=>lj (K:=K) (a:=y.a) (xs:=y.ls.map λx=>V.ref x.a) (cw H D λi v ns=>ns=[]∧v=.bl ((y.m.getD i []).contains (h.ns.getD (sV+i) 0))) ć (λi H' _ f=>aa.of (f.same _ _ (jC hy))) ŉ ø⟩
 ·obtain⟨l,h1,rfl⟩:=iu hi;have hm:=bY h1;have dY:=(bH.mp h1).1;have s1:ai H' (Ϡ (.tup [.int (i:Nat),.ref l.a])):=aK hT;have s2:=f.same.trans s1;refine Ü;refine⟨_,rfl,_,rfl,_,rfl,_,_,rfl,rfl,h.a,_,_,.int ((h.ns.getD (sV+i) 0:Nat):Int),rfl,rfl,aa.of (s2 _ _ (BA hh)),fZ (j:=sV+i) (E3 Ä),_,rfl,l.a,_,rfl,.inl (aa.of (s2 _ _ (l6 hy hm))),rfl,Bj _,?_⟩;refine f.step hD Ä s1 Ŕ aU.nil Â;rw[BD h1,←in_nums];rfl
 ·obtain⟨ys,s1,fq,eW,fl⟩:=f.end;rw[aA] at eW;refine⟨D,(List.range y.ls.length).map λi=>(y.m.getD i []).contains (h.ns.getD (sV+i) 0),rfl,aa.of (EZ fq eW λi v e=>?_),?_⟩
  ·obtain⟨ns,⟨_,e⟩,_⟩:=fl i v e;omega
  ·have q:=k H' s1;unfold xG at q;rw[iw] at q;simp_all
def nk(below:Bool)(u:Nat):Nat:=if below=true then 0 else u
def sf(above:Bool)(u:Nat):Nat:=if above=true then u else 0
def Ly(a b:Bool)(u:Nat)(h:LN)(seen:bq):Bool:=(List.range (sf a u+1-nk b u)).any λi=>xG (nk b u+i) h seen
def uv(h:LN)(g:iC)(seen:bq):Bool:=Ly g.above g.below (h.length-g.flags.length) h seen
inductive Lz(C:Cs)(vs:aq)(H:Hp)(Q:VK)(E':XK):Prop
 |mk (h:cK) (g:cg) (y:b9) (_:vs=[.ref h.a,.ref g.a,.ref y.a]) (_:aU H (lsN h)) (_:Lies H Æh) (_:aU H Æk) (_:y.ls.length=g.flags.length) (_:g.flags.length≤h.ns.length) (_:h.ns.length≤100) (_:∀H',ai H H'→Q (.bl (uv h.ns g.m y.m)) H')
def zq:bC ["hoist","glimpse","kinds_seen","unseen","first","last","place"] ["hoist","glimpse","kinds_seen"] (a7 JK):=cu
def ahd(F:br K "hoist_fits" "hoist_fits" JK f fd)(T:lW K C)(tL:mg "len"=none)(tA:mg "any"=none)(tR:mg "range"=none)(dF:Å 1 "fits_at" ["place","hoist","kinds_seen"] Lv):Ê aE 2 f fd ["hoist","glimpse","kinds_seen"] (Lz C):=by
 refine F.ok zq À;obtain⟨h,g,y,rfl,hh,hg,hy,rL,j0,yA,k⟩:=h;refine⟨_,aB (cq 3 zq.nd (eP qk Ă (c6 f7 Ò tL PySem.boot_len (ae ğ ag))))
  (aB (cq 4 zq.nd (rB (jr ğ) bh õ))
  (aB (cq 5 zq.nd (rB (jr ğ) õ bh))
  (aD (aZ (c6 (Qb rfl) Ò tA boot_any (ae (eB (own:=[("place",6)]) (te:=gY Lv [] E0 (bg (ay 6) (bg ώ (bg ŗ du)))) rfl zq.nd (Zg Ò tR (ae ı (ae (eP qj Ãx bh) ag))) É
   (λ_ _ _ _ _=>dv 6 zq.nd) Ó (λ_ _ _ _ _=>bz dF (ae Ãe (ae Ù ţ)))) ag)))))),?_⟩
 have eu:((h.ns.length:Nat):Int)-((g.flags.length:Nat):Int)=((h.ns.length-g.flags.length:Nat):Int):=by omega
 refine⟨_,rfl,h.a,_,rfl,.inl (aa.of (BA hh)),_,rfl,bo hg.ga T.cG T.vz (vy g) ⟨g.l,_,rfl,.inl (aa.of hg.fl),_,_,rfl,rfl,?_⟩⟩;dsimp only;rw[eX,jB,aA,eu];have k:=k;unfold uv at k;rw[show g.m.flags.length=g.flags.length by unfold cg.m;rw[aA],show g.m.above=g.above from rfl,show g.m.below=g.below from rfl] at k;generalize hu:h.ns.length-g.flags.length=u at k;unfold Ly at k;refine DV g.below (.int ((nk g.below u:Nat):Int)) (λK q=>⟨_,rfl,bo hg.ga T.cG T.R4 (R1 g) ⟨_,rfl,q⟩⟩) Ϫ (λe K q=>Ď) ?_
 ·rw[e] at q;exact q
 ·rw[e] at q;exact q
 ·dsimp only;refine Rk (Rj g.above (.int ((sf g.above u:Nat):Int)) (λK q=>⟨_,rfl,bo hg.ga T.cG T.R3 (RZ g) ⟨_,rfl,q⟩⟩) (λe K q=>Ď) Ϫ ?_)
  ·rw[e] at q;exact q
  ·rw[e] at q;exact q
  ·have b1:nk g.below u≤u:=by unfold nk;split <;> omega
   have b2:sf g.above u≤u:=by unfold sf;split <;> omega
   generalize nk g.below u=fi at b1 k;generalize sf g.above u=la at b2 k;refine⟨_,rfl,_,rfl,_,_,rfl,rfl,(fi:Int),((la:Int)+1),rfl,⟨by omega,by omega,by omega,by omega⟩,λD hD=>?_⟩;rw[show(((la:Nat):Int)+1-(fi:Nat)).toNat=la+1-fi by omega];refine Dx (lo:=(fi:Int)) (n:=la+1-fi) (cw H D λi v ns=>ns=[]∧v=.bl (xG (fi+i) h.ns y.m)) ć Âd ø
   ·refine⟨rfl,eJ ⟨_,rfl,_,rfl,_,rfl,fi+i,h,y,?_,aU.same hh f.same,aU.same hy f.same,by omega,by omega,λH3 s3=>?_⟩⟩
    ·rfl
    ·exact f.step hD Ä s3 ⟨rfl,rfl⟩ aU.nil Â
   ·obtain⟨ys,s1,fq,eW,fl⟩:=f.end;refine⟨D,(List.range (la+1-fi)).map λi=>xG (fi+i) h.ns y.m,rfl,aa.of (EZ fq eW λi v e=>?_),?_⟩
    ·obtain⟨ns,⟨_,e⟩,_⟩:=fl i v e;omega
    ·simp_all
def l7:bq→List iC→List bq→Bool
 |h::hs,g::gs,s::ss=>uv h g s&&l7 hs gs ss
 |_,_,_=>true
inductive LB(C:Cs)(CV:Addr)(vs:aq)(H:Hp)(Q:VK)(E':XK):Prop
 |mk (y:b9) (p:eK) (v:uu) (_:vs=[.ref y.a,.ref p.a,.ref v.a]) (_:aU H Æk) (_:vO C H p) (_:aU H Åm) (_:y.ls.length=p.ak.length) (_:v.gs.length=p.ak.length) (_:(∀(i:Nat)(h:cK)(g:cg)(s:b9),y.ls[i]? =some h→p.ak[i]? =some g→v.gs[i]? =some s→s.ls.length=g.flags.length∧g.flags.length≤h.ns.length∧h.ns.length≤100)) (_:∀H',ai H H'→Q (.bl (l7 y.m ï Ϭ)) H')
theorem ahe(hs:bq):∀(gs:List iC)(ss:List bq),hs.length=gs.length→ss.length=gs.length→l7 hs gs ss=(List.range hs.length).all λi=>uv (hs.getD i []) (gs.getD i ⟨false,false,[]⟩) (ss.getD i []):=by
 induction hs with
 |nil=>
  intro gs ss h1 h2;cases gs with
  |nil=>cases ss with
   |nil=>rfl
   |cons _ _=>cases h2
  |cons _ _=>cases h1
 |cons h hs ih=>
  intro gs ss h1 h2;cases gs with
  |nil=>cases h1
  |cons g gs=>cases ss with
   |nil=>cases h2
   |cons s ss=>
    have ih:=ih gs ss (by simpa using h1) (by simpa using h2);unfold l7;rw[ih,cZ,CJ,qW,qX];rfl
def LC:bC ["hoists","plate","view","j","hoist"] ["hoists","plate","view"] (a7 JJ):=cu
def ahf{f:Addr}{fd:FD}(F:br K "fits" "fits" JJ f fd)(T:lW K C)(TV:lu K CV ["side","glimpses"])(tA:mg "all"=none)(tE:mg "enumerate"=none)(dF:Å 2 "hoist_fits" ["hoist","glimpse","kinds_seen"] (Lz C)):Ê aE 3 f fd ["hoists","plate","view"] (LB C CV):=by
 refine F.ok LC À;obtain⟨y,p,v,rfl,hy,hp,hv,eW,je,ax,k⟩:=h;refine⟨_,aD (aZ (c6 Äm Ò tA ye (ae (eB (own:=[("j",3),("hoist",4)]) (g:=g2 K 3 4) (te:=gY (Lz C) [] E0 (bg Ãi (bg (bQ ύ (fY K ϖ "glimpses") Ŗ) (bg (bQ ύ (fY K ŗ "glimpses") Ŗ) du)))) rfl LC.nd
   (Âi) É
   (λ_ _ _ _ _=>iB 3 4 LC.nd) Ó
   (λ_ _ _ _ _=>bz dF (ae ı (ae (cA cQ ğ õ Õ) (ae (cA cQ Ài õ Õ) ag))))) ag))),?_⟩
 have yA:=hp.c8;rw[ahe _ _ _ (by rw[iw,aA];exact eW) Ç,iw] at k;refine⟨_,rfl,y.a,_,rfl,aa.of (jC hy),λD hD=>lj (K:=K) (a:=y.a) (xs:=y.ls.map λx=>V.ref x.a) (cw H D λi u ns=>ns=[]∧u=.bl (uv Çb ((p.ak.map cg.m).getD i ⟨false,false,[]⟩) ((v.gs.map b9.m).getD i []))) ć (λi H' _ f=>aa.of (f.same _ _ (jC hy))) ŉ ø⟩
 ·obtain⟨l,h1,rfl⟩:=iu hi;have hm:=bY h1;have dY:=(bH.mp h1).1;have s1:ai H' (Ϡ (.tup [.int (i:Nat),.ref l.a])):=aK hT;have s2:=f.same.trans s1;obtain⟨g,hg⟩:∃g,p.ak[i]? =some g:=⟨_,dm Ä⟩;obtain⟨z,hz⟩:∃z,v.gs[i]? =some z:=⟨_,dm Ä⟩;obtain⟨o1,o2,o3⟩:=ax i l g z h1 hg hz;have hgm:=bY hg;have BE:=bY hz;refine Ü;refine⟨_,rfl,_,rfl,bo (s2 _ _ hp.l.pl) T.cP T.m5 Åh ⟨_,rfl,p.gl,_,_,.ref g.a,rfl,rfl,aa.of (s2 _ _ hp.l.gl),fZ (by rw[bX,hg];rfl),
   _,rfl,bo (s2 _ _ (Tw hv)) TV.1 (TV.2 _ Â) (ag5 v) ⟨_,rfl,v.gl,_,_,.ref z.a,rfl,rfl,aa.of (s2 _ _ (ag6 hv)),fZ (by rw[bX,hz];rfl),l,g,z,rfl,λx hx=>?_,(hp.l.sub hgm).same s2,(ag7 hv BE).same s2,o1,o2,o3,λH3 s3=>?_⟩⟩⟩
  ·exact s2 _ _ (hy x (by unfold eQ;exact aN _ (j7.mpr ⟨l,hm,hx⟩)))
  ·refine f.step hD Ä Äw Ŕ aU.nil Â;rw[BD h1,getD_map hg,getD_map hz]
 ·obtain⟨ys,s1,fq,Tx,fl⟩:=f.end;rw[aA] at Tx;refine⟨D,_,rfl,aa.of (EZ (b:=λi=>uv Çb ((p.ak.map cg.m).getD i ⟨false,false,[]⟩) ((v.gs.map b9.m).getD i [])) fq Tx λi v e=>?_),?_⟩
  ·obtain⟨ns,⟨_,e⟩,_⟩:=fl i v e;omega
  ·simp_all
end
def qJ(p:Nat→Bool)(g:Nat→Int)(n:Nat):LI:=((List.range n).filter p).map g
def nq(H1:Hp)(D:Addr)(p:Nat→Bool)(g:Nat→Int)(i:Nat)(H:Hp):Prop:=ai H1 H∧H D=some (.lst (iv (qJ p g i)))
def nq.zero(hD:H1 D=none):nq H1 D p g 0 Ĉ:=⟨aK hD,ao⟩
def ahh(p:Nat→Bool)(g:Nat→Int)(i:Nat):(qJ p g i).length≤i:=by
 unfold qJ;grind
def nq.yes(hD:H1 D=none)(hi:i<1000000)(f:nq H1 D p g i H)(s:ai H H4)(h:p i=true)(hv:v=V.int (g i)):jJ D (nq H1 D p g (i+1)) v H4:=by
 subst hv;refine⟨_,s _ _ f.2,?_,fh (f.1.trans s) hD,?_⟩
 ·rw[eX];have:=ahh p g i;exact gQ Ä
 ·unfold qJ;rw[ao,BC,af h,bV];simp
def nq.no(f:nq H1 D p g i H)(s:ai H H4)(h:¬p i=true):nq H1 D p g (i+1) H4:=by
 refine⟨f.1.trans s,?_⟩;unfold qJ;rw[BC,ah h,kY];exact s _ _ f.2
def ft(H1:Hp)(D:Addr)(g:Nat→Int)(i:Nat)(H:Hp):Prop:=ai H1 H∧H D=some (.lst (iv ((List.range i).map g)))
def ft.zero(hD:H1 D=none):ft H1 D g 0 Ĉ:=⟨aK hD,ao⟩
def ft.step(hD:H1 D=none)(hi:i<1000000)(f:ft H1 D g i H)(s:ai H H4)(hv:v=V.int (g i)):jJ D (ft H1 D g (i+1)) v H4:=by
 subst hv;refine⟨_,s _ _ f.2,?_,fh (f.1.trans s) hD,?_⟩
 ·rw[eX,aA,gX];exact gQ Ä
 ·rw[ao,GQ,bV];simp
def kI(ms:aF)(s:Nat):Int:=(ms.getD s fg).jP
def zr(ms:aF)(sames row:LN)(above b:Nat):Bool:=decide (kI ms ŀ≤(above:Int))&&decide (row.getD ((kI ms ŀ).toNat-1) 0=row.getD above 0)
def E4(ms:aF)(sames row:LN)(above:Nat):Int:=(qJ (zr ms sames row above) (λb=>2^b) sames.length).sum
structure BF(ms:aF)(sames:LN):Prop where
 c8:sames.length≤1000
 lt:∀s∈sames,s<ms.length
 pos:∀s∈sames,1≤kI ms s
inductive LD(CK:Addr)(vs:aq)(H:Hp)(Q:VK)(E':XK):Prop
 |mk (pk ps pr:Addr) (ks:List az) (sames row:LN) (above:Nat) (_:vs=[.ref pk,.ref ps,.ref pr,.int (above:Nat)]) (_:ů ks) (_:H ps=some ϶) (_:BF Ë sames) (_:H pr=some Ãm) (_:above<row.length) (_:∀H',ai H H'→Q (.int (E4 Ë sames row above)) H')
section
variable{P:Pg}{w:Wd}{K:FR}{mg:MG}{base:Heap}{CK CL CS N CV:Addr}{C:Cs}
def BG:bC ["kinds","sames","row","above","whiches","number","bit","which"] ["kinds","sames","row","above"] (a7 JQ):=cu
def boot_sum:bootBuiltins "sum"=some (.builtin "sum"):=by decide+kernel
def ahi(F:br K "bits_of_sames" "bits_of_sames" JQ f fd)(T:rW K CK)(tS:mg "sum"=none)(tE:mg "enumerate"=none):Ê aE 1 f fd ["kinds","sames","row","above"] (LD CK):=by
 refine F.ok BG À;obtain⟨pk,ps,pr,ks,sames,row,above,rfl,hk,jT,gj,gO,ng,k⟩:=h;refine⟨_,aB (tW (i:=4) (own:=[("number",5)]) (te:=fY K (bQ ύ ώ (ay 5)) "which") rfl BG.nd rfl rfl Ò Æi É
   (λ_ _ _ _ _=>dv 5 BG.nd) Ó (λ_ _ _ _ _=>bj (cA cQ Ù Ãx Õ) rfl))
  (aD (aZ (c6 (P4 rfl) Ò tS boot_sum (ae (eB (own:=[("bit",6),("which",7)]) (g:=g2 K 6 7) (tt:=Dd (mQ (bQ (gv λi j=>.bl (decide (i≤j))) Èf Ŗ)) (mQ (bQ nW (bQ ύ ŗ (bQ (gv λi j=>.int (i-j)) Èf Äv)) (bQ ύ ŗ Ŗ)))) (te:=bQ (rI Pe λi j=>.int (i*2^j.toNat)) Äv (ay 6)) rfl BG.nd
   (ku Ò tE ϣ) É
   (λ_ _ _ _ _=>iB 6 7 BG.nd)
   (λ_ _ _ _ _=>o7 (PW.pt (pw_and (cI wI Åf õ (bT _)) (pw_and1 (cI hJ (cA cQ è (eP qk Åf bh) Õ) (cA cQ è õ Õ) (bT _))))))
   (λ_ _ _ _ _=>eP Hu bh Ãe)) ag)))),?_⟩
 refine⟨_,rfl,ps,rfl,⟨_,aa.of jT⟩,λD hD=>gy (K:=K) (a:=ps) (xs:=iv (nv sames)) (ft H D λi=>kI Ë Ŀ) Áy (λi H' _ f=>aa.of (f.1 _ _ jT)) ĉ ø⟩
 ·obtain⟨z,hz,rfl⟩:=nh hi;have dY:=(bH.mp hz).1;have BE:=bY hz;have bJ:=gj.lt z BE;have Tz:=gj.c8;rw[aA] at bJ;obtain⟨b,hb⟩:∃b,ks[z]? =some b:=⟨_,dm bJ⟩;refine⟨rfl,eJ ⟨_,rfl,_,rfl,pk,_,_,.ref b.a,rfl,rfl,aa.of (f.1 _ _ hk.a),fZ Ç,bo (ji ((m8 hk.l Ço).same f.1)) T.c T.KS (KQ b) ?_⟩⟩;refine ft.step hD Ä f ĸ ?_;unfold kI;simp_all
 ·have hd:=f.2;have s1:=f.1;rw[eX,jB] at hd;refine⟨_,rfl,D,_,rfl,aa.of hd,λD2 cE=>lj (K:=K) (a:=D) (xs:=iv ((List.range sames.length).map λi=>kI Ë Ŀ)) (nq H' D2 (zr Ë sames row above) (λb=>2^b)) (nq.zero cE) (λi H2 _ f=>aa.of (f.1 _ _ hd)) (λi x Tt H2 hi f2 hT=>?_) (λH2 f2=>?_)⟩
  ·obtain⟨z,hz,rfl⟩:=rS hi;rw[bX] at hz;cases er:(List.range sames.length)[i]? with
   |none=>simp_all
   |some j=>
    rw[er] at hz;have dY:=(bH.mp er).1;rw[gX] at dY;cases xp er;have hz:kI Ë Ŀ=z:=aO hz;subst hz;have Tz:=gj.c8;have TF:=gj.pos Ŀ Ç;have s2:ai H2 (upd H2 Tt (.tup [.int (i:Nat),.int (kI Ë Ŀ)])):=aK hT;have s3:=(s1.trans f2.1).trans s2;refine ä;have eb:zr Ë sames row above i=(decide (kI Ë Ŀ≤(above:Int))&&decide (row.getD ((kI Ë Ŀ).toNat-1) 0=row.getD above 0)):=rfl;generalize kI Ë Ŀ=wh at TF eb s2 s3;refine and_val (decide (wh≤(above:Int))) (decide (row.getD (wh.toNat-1) 0=row.getD above 0)) (λK q=>⟨_,rfl,_,rfl,_,_,rfl,rfl,_,rfl,q⟩) (λhc K q=>?_) (a9 Í Í)
    ·have j0:=qZ hc;refine⟨_,rfl,_,rfl,_,_,rfl,rfl,pr,_,_,.int ((row.getD (wh.toNat-1) 0:Nat):Int),rfl,rfl,aa.of (s3 _ _ gO),?_,_,rfl,_,rfl,pr,_,_,.int ((row.getD above 0:Nat):Int),rfl,rfl,aa.of (s3 _ _ gO),fZ (E3 ng),rfl,_,rfl,?_⟩
     ·rw[show wh-1=((wh.toNat-1:Nat):Int) by omega];exact fZ (E3 Ä)
     ·rw[lK];omega
    ·refine⟨_,rfl,_,_,rfl,rfl,⟨by omega,by omega,by decide⟩,?_⟩;refine f2.yes cE Ä s2 (eb.trans hc) ?_;simp
    ·exact f2.no s2 Ç
  ·have e:=f2.2;rw[eX,aA,gX] at e;exact⟨D2,_,rfl,aa.of e,k H2 (s1.trans f2.1)⟩
end
def BH(K:FR)(t:TE):TT:=λσ H Q=>t σ H λx H'=>∃k,Hw K x H' k∧Q k H'
def si(ms:aF)(sames row:LN)(above:Nat):Nat:=(((List.range sames.length).filter (zr ms sames row above)).map (2^ ·)).sum
theorem ahj(l:LN):(nv l).sum=((l.sum:Nat):Int):=by
 induction l with
 |nil=>rfl
 |cons a l ih=>
  simp_all
def ahk(ms:aF)(sames row:LN)(above:Nat):E4 ms sames row above=((si ms sames row above:Nat):Int):=by
 unfold E4 si qJ;rw[←ahj];unfold nv;rw[cO];congr 1
def pP(ms:aF)(sames row:LN):LN:=(List.range row.length).map (si ms sames row)
inductive LF(CK:Addr)(vs:aq)(H:Hp)(Q:VK)(E':XK):Prop
 |mk (pk ps pr:Addr) (ks:List az) (sames row:LN) (_:vs=[.ref pk,.ref ps,.ref pr]) (_:ů ks) (_:H ps=some ϶) (_:BF Ë sames) (_:H pr=some Ãm) (_:row.length≤1000) (_:∀H' p,ϡ (.lst (iv (nv (pP Ë sames row))))→Q Ģ H')
def gU(g b:Nat):Bool:=Builtin.bitAnd (b:Int) (Builtin.bitNot (g:Int))!=0
def qK(g:Nat)(places:LN):Nat:=(places.filter (gU g)).length
inductive LG(K:FR)(vs:aq)(H:Hp)(Q:VK)(E':XK):Prop
 |mk (g:Nat) (pp:Addr) (places:LN) (_:vs=[.int (g:Nat),.ref pp]) (_:ß pp (iv (nv places))) (_:places.length≤1000) (_:∀H',ai H H'→Q (.int ((qK g places:Nat):Int)) H')
def xH(g b:Nat):Bool:=Builtin.bitAnd ((g:Int)/2^b) 1!=0
def qL(ms:aF)(sames:LN)(g:Nat):Int:=(qJ (xH g) (λb=>(ms.getD ŀ fg).copies) sames.length).sum
inductive LH(CK:Addr)(vs:aq)(H:Hp)(Q:VK)(E':XK):Prop
 |mk (g:Nat) (pk ps:Addr) (ks:List az) (sames:LN) (_:vs=[.int (g:Nat),.ref pk,.ref ps]) (_:ů ks) (_:H ps=some ϶) (_:BF Ë sames) (_:∀H',ai H H'→Q (.int (qL Ë sames g)) H')
section
variable{P:Pg}{w:Wd}{K:FR}{mg:MG}{base:Heap}{CK CL CS N CV:Addr}{C:Cs}
def LJ:bC ["kinds","sames","row","above"] ["kinds","sames","row"] (a7 JP):=cu
def ahl(F:br K "sames_along" "sames_along" JP f fd)(tL:mg "len"=none)(tR:mg "range"=none)(dB:Å 1 "bits_of_sames" ["kinds","sames","row","above"] (LD CK)):Ê aE 2 f fd ["kinds","sames","row"] (LF CK):=by
 refine F.ok LJ À;obtain⟨pk,ps,pr,ks,sames,row,rfl,hk,jT,gj,gO,E5,k⟩:=h;refine⟨_,aD (aZ (eB (own:=[("above",3)]) (te:=gY (LD CK) [] E0 (bg ώ (bg ϖ (bg ŗ Ân)))) rfl LJ.nd (Hm Ò tR (ae ċ ag)) É
  (λ_ _ _ _ _=>dv 3 LJ.nd) Ó (λ_ _ _ _ _=>bz dB (ae Ù (ae á (ae è Ĳ)))))),?_⟩
 refine⟨_,rfl,pr,_,rfl,.inl (aa.of gO),(row.length:Int),by simp,by omega,by omega,λD hD=>?_⟩;rw[Cy];refine Dx (lo:=0) (n:=row.length) (ft H D λi=>E4 Ë sames row i) Áy Âd ø
 ·refine⟨rfl,eJ ⟨_,rfl,_,rfl,_,rfl,_,rfl,pk,ps,pr,ks,sames,row,i,?_,hk.same f.1,f.1 _ _ jT,gj,f.1 _ _ gO,hi,λH3 s3=>?_⟩⟩
  ·simp
  ·exact ft.step hD Ä f s3 rfl
 ·refine k H' D ⟨f.1,hD,?_⟩;rw[f.2];unfold pP nv;rw[cO];congr 3;exact j6 λi _=>ahk _ _ _ i
def LK:bC ["group","places","bits"] ["group","places"] (a7 JT):=cu
def ahm(F:br K "places_outside" "places_outside" JT f fd)(tL:mg "len"=none):Ê aE 1 f fd ["group","places"] (LG K):=by
 refine F.ok LK À;obtain⟨g,pp,places,rfl,xI,df,k⟩:=h;refine⟨_,aD (aZ (c6 f7 Ò tL PySem.boot_len (ae (eB (own:=[("bits",2)]) (tt:=BH K (bQ (gv λi j=>.int ŏ) ŗ (Dk (rU λi=>.int Äq) ώ))) (te:=ay 2) rfl LK.nd Æi É
  (λ_ _ _ _ _=>dv 2 LK.nd) (λ_ _ _ _ _=>o7 (yr (eP Ay è (js Pi Ù)) Ãq)) Ãs) ag))),?_⟩
 refine⟨_,rfl,pp,rfl,⟨_,xI⟩,λD hD=>gy (K:=K) (a:=pp) (xs:=iv (nv places)) (nq H D (λi=>gU g Åg) (λi=>((places.getD i 0:Nat):Int))) (nq.zero hD) (λi H' _ f=>f.1.seq xI) ĉ ø⟩
 ·obtain⟨z,hz,rfl⟩:=nh hi;have dY:=(bH.mp hz).1;refine⟨rfl,_,rfl,_,rfl,_,rfl,_,_,rfl,rfl,_,rfl,a9 Í Í⟩
  ·exact⟨_,rfl,f.yes hD Ä ĸ (by rw[getD_at hz];exact hc) Ç⟩
  ·exact f.no ĸ (by rw[getD_at hz];exact hc)
 ·have e:=f.2;rw[eX,jB] at e;refine⟨D,_,rfl,.inl (aa.of e),?_⟩;have el:(iv (qJ (λi=>gU g Åg) (λi=>((places.getD i 0:Nat):Int)) places.length)).length=qK g places:=by
   rw[eX];unfold qJ qK;rw[aA];have h1:((List.range places.length).filter λi=>gU g Åg).length=(((List.range places.length).map λi=>places.getD i 0).filter (gU g)).length:=by
    rw[yf,aA];rfl
   rw[h1];have h2:=vN (l:=places) (g:=λx=>x) (d:=0);simp_all
  rw[el];exact k H' f.1
def LL:bC ["group","kinds","sames","bit","number"] ["group","kinds","sames"] (a7 JU):=cu
def ahn(F:br K "copies_in" "copies_in" JU f fd)(T:rW K CK)(tS:mg "sum"=none)(tE:mg "enumerate"=none):Ê aE 1 f fd ["group","kinds","sames"] (LH CK):=by
 refine F.ok LL À;obtain⟨g,pk,ps,ks,sames,rfl,hk,jT,gj,k⟩:=h;refine⟨_,aD (aZ (c6 (P4 rfl) Ò tS boot_sum (ae (eB (own:=[("bit",3),("number",4)]) (g:=g2 K 3 4) (tt:=BH K (bQ (gv λi j=>.int ŏ) (bQ (rI (λ_ j=>0≤j) λi j=>.int (i/2^j.toNat)) ώ Ŗ) Äv)) (te:=fY K (bQ ύ ϖ Ãi) "copies") rfl LL.nd
  (ku Ò tE ţ) É
  (λ_ _ _ _ _=>iB 3 4 LL.nd)
  (λ_ _ _ _ _=>o7 (yr (eP Ay (eP Pf Ù õ) bh) Ãq)) (λ_ _ _ _ _=>bj (cA cQ á ı Õ) rfl)) ag))),?_⟩
 refine⟨_,rfl,ps,_,rfl,aa.of jT,λD hD=>lj (K:=K) (a:=ps) (xs:=iv (nv sames)) (nq H D (xH g) (λb=>((ks.map az.m).getD ŀ fg).copies)) (nq.zero hD) (λi H' _ f=>aa.of (f.1 _ _ jT)) ŉ ø⟩
 ·obtain⟨z,hz,rfl⟩:=nh hi;have dY:=(bH.mp hz).1;have BE:=bY hz;have bJ:=gj.lt z BE;have Tz:=gj.c8;rw[aA] at bJ;obtain⟨b,hb⟩:∃b,ks[z]? =some b:=⟨_,dm bJ⟩;have s2:ai H' (Ϡ (.tup [.int (i:Nat),.int (z:Nat)])):=aK hT;have s3:=f.1.trans s2;refine ä;refine⟨_,rfl,_,rfl,_,_,rfl,rfl,ON i,_,_,rfl,rfl,_,rfl,a9 Í Í⟩
  ·exact⟨_,rfl,_,rfl,pk,_,_,.ref b.a,rfl,rfl,aa.of (s3 _ _ hk.a),fZ Ç,bo (ji ((m8 hk.l Ço).same s3)) T.c T.KU (KR b) (f.yes hD Ä s2 hc Ç)⟩
  ·exact f.no s2 hc
 ·have e:=f.2;rw[eX,jB] at e;exact⟨D,_,rfl,aa.of e,k H' f.1⟩
end
def gI(n:Nat):V:=.int (n:Nat)
def oneMore(t:cf)(s:Nat):cf:=d8 t s ((bW t s).getD 0+1)
def gn(flat:LN):cf:=flat.foldl oneMore []
def BI(l:LN)(s:Nat):gn (l++[s])=oneMore (gn l) s:=by
 unfold gn;simp
def snoc_ind{α:Type}{P:List α→Prop}(h0:P [])(hs:∀l a,P l→P (l++[a]))(l:List α):P l:=by
 have h:∀m:List α,P m.reverse:=λm=>by
  induction m with
  |nil=>exact h0
  |cons a m ih=>simp_all
 have:=h l.reverse;simp_all
def LM(l:LN):(gn l).length≤l.length:=by
 refine snoc_ind (P:=λl=>(gn l).length≤l.length) (bO _) Ão l;rw[BI,mw];have:=Rn (gn l) s ((bW (gn l) s).getD 0+1);unfold oneMore;grind
def E6(l:LN):((gn l).map (·.1)).Nodup:=by
 refine snoc_ind (P:=λl=>((gn l).map (·.1)).Nodup) Ae Ão l;rw[BI];exact DY ih
def TJ(l:LN)(s:Nat):(bW (gn l) s).getD 0=l.count s:=by
 refine snoc_ind (P:=λl=>(bW (gn l) s).getD 0=l.count s) rfl Ár l;rw[BI];unfold oneMore;rw[DX,List.count_append];by_cases h:s=x
 ·subst h;rw[af rfl,ih,List.count_singleton_self];rfl
 ·rw[ah h,ih,List.count_eq_zero_of_not_mem (l:=[x]) (by simpa using h)];rfl
def TQ(l:LN)(s:Nat):(bW (gn l) s).isSome=l.contains s:=by
 refine snoc_ind (P:=λl=>(bW (gn l) s).isSome=l.contains s) rfl Ár l;rw[BI];unfold oneMore;rw[DX];by_cases h:s=x
 ·subst h;rw[af rfl];simp
 ·rw[ah h,ih];simp[h]
def TR(h:p∈gn l):p.1∈l:=by
 have h1:=yQ (E6 l) (s:=p.1) (v:=p.2) h;have h2:=TQ l p.1;simp_all
def sj(ms:aF)(s:Nat):Int:=(ms.getD s fg).copies
def ot(ms:aF)(p:Nat×Nat):Option (Nat×Int):=if (p.2:Int)>sj ms p.1 then some (p.1,(p.2:Int)-sj ms p.1) else none
def jk(ms:aF)(flat:LN):List (Nat×Int):=(gn flat).filterMap (ot ms)
theorem E7(ms:aF):∀t:cf,((t.filterMap (ot ms)).map (·.1)).Sublist (t.map (·.1)):=by
 intro t;induction t with
 |nil=>exact List.Sublist.refl _
 |cons p t ih=>
  have ih:=ih;rw[Cz,aY];have ee:ot ms p=none∨∃z,ot ms p=some (p.1,z):=by
   unfold ot;split
   ·exact .inr ⟨_,rfl⟩
   ·exact .inl rfl
  rcases ee with e|⟨z,e⟩
  ·rw[e];exact List.Sublist.cons _ ih
  ·rw[e];exact List.Sublist.cons₂ _ ih
structure LO(H:Hp)(y:b9)(n:Nat):Prop where
 l:aU H Æk
 c8:y.ls.length≤1000
 short:∀x∈y.ls,x.ns.length≤1000
 lt:∀x∈y.ls,∀s∈x.ns,s<n
inductive TU(CK:Addr)(vs:aq)(H:Hp)(Q:VK)(E':XK):Prop
 |mk (pk:Addr) (ks:List az) (y:b9) (_:vs=[.ref pk,.ref y.a]) (_:ů ks) (_:LO H y ks.length) (_:∀H' p,ϡ (.dK (bx V.int Äb))→Q Ģ H')
section
variable{P:Pg}{w:Wd}{K:FR}{mg:MG}{base:Heap}{CK CL CS N CV CP:Addr}{C:Cs}
def TX:bootBuiltins "dict"=some (.type "dict"):=by decide+kernel
def zt:bC ["kinds","rows","used","row","sign","times"] ["kinds","rows"] (a7 JO):=cu
def aho(F:br K "copies_lacking" "copies_lacking" JO f fd)(T:rW K CK)(tD:mg "dict"=none):Ê aE 1 f fd ["kinds","rows"] (TU CK):=by
 refine F.ok zt À;obtain⟨pk,ks,y,rfl,hk,hy,k⟩:=h;refine⟨_,aB (cq 2 zt.nd Dz)
  (aB (Š Æi (dv 3 zt.nd) (aD (Š (eV õ) (dv 4 zt.nd)
   (aD (Ib (yK hr) è ı (eP qj (abe (yK hr) è ı bh ⟨rfl,rfl,rfl,rfl⟩) bh) rfl)))))
  (aD (aZ (wK (abv rfl) Ò tD TX (ae (abA (eB (own:=[("sign",4),("times",5)]) (g:=g2 K 4 5) (tt:=mQ (bQ (gv λi j=>.bl (decide (j<i))) (ay 5) (fY K (bQ ύ ώ Ãi) "copies")))
   (te:=wJ (bg Ãi (bg (bQ (gv λi j=>.int (i-j)) (ay 5) (fY K (bQ ύ ώ Ãi) "copies")) du))) rfl zt.nd (QG è) É
   (λ_ _ _ _ _=>iB 4 5 zt.nd)
   (λ_ _ _ _ _=>o7 (cI u4 Ãx (bj (cA cQ Ù ı Õ) rfl) (bT _)))
   (λ_ _ _ _ _=>tO (ae ı (ae (eP qk Ãx (bj (cA cQ Ù ı Õ) rfl)) ag))))) ag))))),?_⟩
 intro d hd;have sk:ai H (upd H d Àp):=aK hd;have TY:∀i,(y.ls.take i |>.map cK.ns).flatten.length≤1000000:=λi=>by
  have h1:∀(l:List cK),(∀x∈l,x.ns.length≤1000)→(l.map cK.ns).flatten.length≤1000*l.length:=by
   intro l;induction l with
   |nil=>simp
   |cons a l ih=>
    grind
  have h2:=h1 (y.ls.take i) λx hx=>hy.short x (GH hx);have h3:=hy.c8;grind
 refine⟨_,rfl,y.a,rfl,⟨_,aa.of (sk _ _ (jC hy.l))⟩,wD (K:=K) (a:=y.a) (xs:=y.ls.map λx=>V.ref x.a) (λi σ H'=>∃v3 v4,σ=[some (.ref pk),some Àn,some Èj,v3,v4,none]∧ai H H'∧H' d=some (.dK (bx gI (gn (y.ls.take i |>.map cK.ns).flatten))))
  ⟨none,none,rfl,sk,ao⟩ (λi σ H' _ ⟨_,_,_,s1,_⟩=>aa.of (s1 _ _ (jC hy.l))) ?_ ?_⟩
 ·rintro i x σ H' hi ⟨v3,v4,rfl,s1,uw⟩;obtain⟨r,h1,rfl⟩:=iu hi;have hm:=bY h1;have et:=take_snoc h1;have E8:=l6 hy.l hm;have fV:=TY (i+1);rw[et,bV,List.flatten_append] at fV;have fV:((y.ls.take i |>.map cK.ns).flatten++r.ns).length≤1000000:=by simpa using fV
  refine⟨_,rfl,r.a,rfl,⟨_,aa.of (s1 _ _ E8)⟩,wD (K:=K) (a:=r.a) (xs:=iv (nv r.ns)) (λj σ H'=>∃v4,σ=[some (.ref pk),some Àn,some Èj,some (.ref r.a),v4,none]∧ai H H'∧H' d=some (.dK (bx gI (gn ((y.ls.take i |>.map cK.ns).flatten++r.ns.take j)))))
   ⟨v4,rfl,s1,by rw[List.take_zero,kY];exact uw⟩ (λj σ H' _ ⟨_,_,s2,_⟩=>aa.of (s2 _ _ E8)) ?_ ?_⟩
  ·rintro j x σ H2 hj ⟨v4,rfl,s2,fA⟩;obtain⟨z,hz,rfl⟩:=nh hj;have u9:=(bH.mp hz).1;have so:=take_snoc hz;generalize hF:(y.ls.take i |>.map cK.ns).flatten=F0 at fA fV⊢;have gE:=LM (F0++r.ns.take j);rw[mw,mv] at gE;rw[mw] at fV;generalize hT:gn (F0++r.ns.take j)=T0 at fA gE;refine⟨_,rfl,d,rfl,.inl ⟨_,.inl fA⟩,_,rfl,(bW T0 z).map gI,?_,((bW T0 z).getD 0:Nat),1,?_,rfl,_,rfl,_,rfl,d,_,rfl,wY.k (k:=Sum.inl ((z:Nat):Int)) fA (by rw[xc];exact gQ Ä),?_⟩
   ·have q:=jK.k (k:=(Sum.inl ((z:Nat):Int):Key)) fA;rw[yP] at q;exact q
   ·cases bW T0 z <;> rfl
   ·refine⟨_,rfl,qz s2 hd,?_⟩;rw[ao,so,←rg,BI,hT];unfold oneMore;rw[←Ba];rfl
  ·simp_all
 ·rintro σ H' ⟨v3,v4,rfl,s1,uw⟩;rw[aA,mx] at uw;have ef:(y.ls.map cK.ns).flatten=y.m.flatten:=rfl;rw[ef] at uw;have hmu:=True.intro;refine⟨d,_,uw,hmu,λod=>?_⟩;have sl:ai H (upd H' d Çr):=qz s1 hd;have ly:(upd H' d Çr) d=some Çr:=ao;generalize upd H' d Çr=H1 at sl ly;have gE:=LM y.m.flatten;have fV:=TY y.ls.length;rw[mx,ef] at fV;have bJ:∀p∈gn y.m.flatten,p.1<ks.length:=λp hp=>by
   have h1:=TR hp;obtain⟨l,hl,h2⟩:=List.mem_flatten.mp h1;unfold b9.m at hl;obtain⟨x,hx,rfl⟩:=cb.mp hl;exact hy.lt x hx _ h2
  have BJ:=E6 y.m.flatten;have LP:jk Ë y.m.flatten=(gn y.m.flatten).filterMap (ot Ë):=rfl;generalize gn y.m.flatten=T0 at ly gE bJ BJ LP;refine⟨_,rfl,d,od,_,rfl,ly,λD hD=>acK (d:=d) (o:=od) (kvs:=bx gI T0) (λi H2=>∃ps:LA,ai H1 H2∧H2 D=some (.lst Áx)∧ps.length≤i∧Paired (λp kv=>H2 p=some (.tup [kV kv.1,kv.2])) ps (bx V.int ((T0.take i).filterMap (ot Ë))))
   ⟨[],aK hD,ao,bO _,.nil⟩ (λi H2 _ ⟨_,s2,_⟩=>s2 _ _ ly) ?_ ?_⟩
  ·rintro i kk vv Tt H2 hi ⟨ps,s2,cE,df,gO⟩ hT;obtain⟨sg,n,h1,rfl,rfl⟩:=IA gI hi;have dY:=(bH.mp h1).1;have et:=take_snoc h1;have AI:=bJ _ (bY h1);obtain⟨b,hb⟩:∃b,ks[sg]? =some b:=⟨_,dm AI⟩;have vo:=bY hb;have s3:ai H2 (upd H2 Tt (.tup [.int (sg:Nat),.int (n:Nat)])):=aK hT;have s4:=(sl.trans s2).trans s3;have ec:sj Ë sg=b.m.copies:=by unfold sj;rw[getD_map hb]
   refine ä;refine⟨_,rfl,_,rfl,_,rfl,pk,_,_,.ref b.a,rfl,rfl,aa.of (s4 _ _ hk.a),fZ Ç,bo (ji ((m8 hk.l vo).same s4)) T.c T.KU (KR b) ⟨_,_,rfl,rfl,_,rfl,a9 Í Í⟩⟩
   ·simp at hc;refine⟨_,rfl,_,rfl,_,rfl,_,rfl,pk,_,_,.ref b.a,rfl,rfl,aa.of (s4 _ _ hk.a),fZ Ç,bo (ji ((m8 hk.l vo).same s4)) T.c T.KU (KR b) ⟨_,_,rfl,rfl,(by show 2≤sizeLine;decide),λt ht=>?_⟩⟩;have BK:=s3.free ht;have s5:=s3.trans (aK (o:=.tup [.int (sg:Nat),.int (((n:Nat):Int)-b.m.copies)]) ht);have LQ:D≠t:=λz=>by rw[←z,cE] at BK;cases BK
    refine⟨_,s5 _ _ cE,?_,ps++[t],?_,?_,?_,?_⟩
    ·rw[aA];exact gQ Ä
    ·exact qz (s2.trans s5) hD
    ·rw[ao,bV];rfl
    ·simp_all
    ·rw[et,XG];have e1:([(sg,n)]:cf).filterMap (ot Ë)=[(sg,((n:Nat):Int)-b.m.copies)]:=by
      rw[Cz];unfold ot;simp_all
     rw[e1];unfold bx;rw[bV];refine Paired.snoc (Paired.lG gO λp kv e=>?_) ?_
     ·rw[au (λz=>by simp_all)];exact s5 _ _ e
     ·rw[au (dJ LQ)];exact ao
   ·simp at hc;refine⟨ps,s2.trans s3,s3 _ _ cE,Nat.le_succ_of_le df,?_⟩;rw[et,XG];have e1:([(sg,n)]:cf).filterMap (ot Ë)=[]:=by
     rw[Cz];unfold ot;grind
    rw[e1,kY];exact Paired.lG gO λp kv e=>s3 _ _ e
  ·rintro H2 ⟨ps,s2,cE,df,gO⟩;rw[xc,mx] at gO;rw[←LP] at gO;have fA:=s2 _ _ ly;have hDd:D≠d:=λz=>by rw[z,ly] at hD;cases hD
   have s5:ai H (upd H2 d (.dK (bx gI T0))):=qz (sl.trans s2) hd;refine⟨fA,D,ps,_,rfl,aa.of (by rw[au hDd];exact cE),Paired.lG gO λp kv e=>bu.of (by rw[au (λz=>by rw[z,fA] at e;cases e)];exact e),λp hp=>?_⟩;have ahr:((jk Ë y.m.flatten).map (·.1)).Nodup:=by
    rw[LP];exact aoY (E7 _ T0) BJ
   have em:=acQ V.int Äb [] ahr;rw[yg] at em;refine k _ p ⟨s5.trans (aK hp),s5.free hp,?_⟩;rw[ao];exact cz (λz=>some (HO.dK z)) em
end
def gL(x:cK):V:=.ref x.a
def oneAt(t:List (Nat×LN))(p:Nat×Nat):List (Nat×LN):=d8 t p.1 ((bW t p.1).getD []++[p.2])
def iK(ps:cf):List (Nat×LN):=ps.foldl oneAt []
def BL(l:cf)(p:Nat×Nat):iK (l++[p])=oneAt (iK l) p:=by
 unfold iK;simp
def places_len(l:cf):(iK l).length≤l.length:=by
 refine snoc_ind (P:=λl=>(iK l).length≤l.length) (bO _) Ão l;rw[BL,mw];have:=Rn (iK l) s.1 ((bW (iK l) s.1).getD []++[s.2]);unfold oneAt;grind
def TZ(l:cf)(s:Nat):(bW (iK l) s).getD []=(l.filter λp=>decide (p.1=s)).map (·.2):=by
 refine snoc_ind (P:=λl=>(bW (iK l) s).getD []=(l.filter λp=>decide (p.1=s)).map (·.2)) rfl Ár l;rw[BL,CY,bV,←ih];unfold oneAt;rw[DX];by_cases h:s=x.1
 ·rw[af h,wo,af (by simp[h]),h];rfl
 ·rw[ah h,wo,ah (by simpa using λe=>h e.symm)];simp
def T3(l:cf){s:Nat}{x:LN}(h:bW (iK l) s=some x):x.length≤l.length:=by
 have:=TZ l s;grind
def cont(p:Nat×cK):Nat×LN:=(p.1,p.2.ns)
structure BM(H0 H:Hp)(d:Addr)(t:List (Nat×cK)):Prop where
 d:H d=some (.dK (bx gL t))
 l:∀p∈t,H p.2.a=some (.lst (iv (nv p.2.ns)))
 nd:(t.map λp=>p.2.a).Nodup
 fr:∀p∈t,H0 p.2.a=none
theorem zu(t:List (Nat×cK))(s:Nat):bW Áv s=(bW t s).map cK.ns:=by
 induction t with
 |nil=>rfl
 |cons p t ih=>
  unfold bW at ih⊢;rw[aY,j5,j5,show(cont p).1=p.1 from rfl];cases decide (p.1=s) with
  |true=>rfl
  |false=>exact ih
def T4(t:List (Nat×cK))(s:Nat)(x:cK):(d8 t s x).map cont=d8 Áv s x.ns:=by
 unfold d8;rw[pb,pb,zu,CM];split
 ·rw[cO,cO];refine j6 λp _=>?_;show cont (if p.1=s then (p.1,x) else p)=if p.1=s then (p.1,x.ns) else cont p;split <;> rfl
 ·rw[bV];rfl
def ahs{t:List (Nat×cK)}{s:Nat}{x y:cK}(h:bW t s=some x)(e:y.a=x.a)(hn:(t.map (·.1)).Nodup):bx gL (d8 t s y)=bx gL t:=by
 unfold d8;rw[pb,h,af (show(some x).isSome=true from rfl)];unfold bx;rw[cO];refine j6 λp hp=>?_;show((Sum.inl (((if p.1=s then (p.1,y) else p).1:Nat):Int):Key),gL (if p.1=s then (p.1,y) else p).2)=(Sum.inl ((p.1:Nat):Int),gL p.2);by_cases c:p.1=s
 ·rw[af c];have:=yQ hn (s:=s) (v:=p.2) (by grind);rw[h] at this;cases this;unfold gL;rw[e]
 ·simp_all
def aht{t:List (Nat×cK)}{s:Nat}{x y:cK}(h:bW t s=some x)(e:y.a=x.a)(hn:(t.map (·.1)).Nodup):((d8 t s y).map λp=>p.2.a)=t.map λp=>p.2.a:=by
 unfold d8;rw[pb,h,af (show(some x).isSome=true from rfl),cO];refine j6 λp hp=>?_;show(if p.1=s then (p.1,y) else p).2.a=p.2.a;by_cases c:p.1=s
 ·rw[af c];have:=yQ hn (s:=s) (v:=p.2) (by grind);simp_all
 ·simp_all
def xJ{β:Type}{t:List (Nat×β)}{s:Nat}{v:β}{p:Nat×β}(h:p∈d8 t s v):p=(s,v)∨(p∈t∧p.1≠s):=by
 unfold d8 at h;grind
def ahu{t:List (Nat×cK)}(h:(t.map λp=>p.2.a).Nodup){p q:Nat×cK}(hp:p∈t)(hq:q∈t)(aQ:p.1≠q.1):p.2.a≠q.2.a:=by
 intro e;obtain⟨i,hi,ei⟩:=qY hp;obtain⟨j,hj,ej⟩:=qY hq;have E9:i=j:=by
  have h1:(t.map λp=>p.2.a)[i]' Ç=(t.map λp=>p.2.a)[j]' Ç:=by
   simp_all
  exact(Xd h).mp h1
 simp_all
def zw{α:Type}{l:List α}{i:Nat}{a:α}(h:l[i]? =some a):l.drop i=a::l.drop (i+1):=by
 obtain⟨h1,h2⟩:=bH.mp h;rw[←h2];simp
def eT(rows lD:bq):cf:=(rows.zip lD).flatMap λp=>p.1.zip p.2
inductive T5(vs:aq)(H:Hp)(Q:VK)(E':XK):Prop
 |mk (y z:b9) (_:vs=[.ref y.a,.ref z.a]) (_:aU H Æk) (_:aU H (eQ z)) (_:y.ls.length=z.ls.length) (_:(∀(i:Nat)(a b:cK),y.ls[i]? =some a→z.ls[i]? =some b→a.ns.length=b.ns.length)) (_:(eT y.m z.m).length≤100000) (_:∀H' p t,ai H H'→H p=none→BM H H' p t→t.map cont=iK Æj→Q Ģ H')
section
variable{P:Pg}{w:Wd}{K:FR}{mg:MG}{base:Heap}{CK CL CS N CV CP:Addr}{C:Cs}
def Fb:bC ["rows","stands","places","row","bits","sign","here"] ["rows","stands"] (a7 JR):=cu
inductive PcI(y z:b9)(d:Addr)(H:Hp)(i:Nat)(σ:L2.St)(H':Hp):Prop
 |mk (v3 v4 v5 v6 t:_) (_:σ=[some Àn,some Äj,some Èj,v3,v4,v5,v6]) (_:ai H H') (_:BM H H' d t) (_:(t.map (·.1)).Nodup) (_:t.map cont=iK (eT ű Àk))
inductive PcJ(y z:b9)(d:Addr)(H:Hp)(a b:cK)(i:Nat)(j:Nat)(σ:L2.St)(H':Hp):Prop
 |mk (v5 v6 t:_) (_:σ=[some Àn,some Äj,some Èj,some (.ref a.a),some Æx,v5,v6]) (_:ai H H') (_:BM H H' d t) (_:(t.map (·.1)).Nodup) (_:t.map cont=iK (eT ű Àk++(a.ns.take j).zip Åc))
def ahx{f:Addr}{fd:FD}(F:br K "places_of" "places_of" JR f fd)(tZ:mg "zip"=none):Ê aE 1 f fd ["rows","stands"] T5:=by
 refine F.ok Fb À;obtain⟨y,z,rfl,hy,hz,cJ,ahy,yA,k⟩:=h;refine⟨_,aB (cq 2 Fb.nd Dz)
  (aB (Š (QI Ò tZ (ae Ù Œ)) (iB 3 4 Fb.nd)
   (aD (Š (QI Ò tZ (ae õ ϣ)) (iB 5 6 Fb.nd)
    (aD (rE (Ý (acT è Ãx ĳ ⟨rfl,rfl,rfl,rfl⟩) (ae Ãe ag)))))))
  Æq),?_⟩
 intro d hd;have sk:ai H (upd H d Àp):=aK hd;have pQ:=jC hy;have sr:=jC hz;refine⟨_,rfl,_,rfl,y.a,z.a,_,_,rfl,aa.of (sk _ _ pQ),aa.of (sk _ _ sr),Rl (K:=K) (a:=y.a) (b:=z.a) (xs:=y.ls.map λx=>V.ref x.a) (ys:=z.ls.map λx=>V.ref x.a) (by rw[aA,aA];exact cJ)
  (PcI y z d H)
  ⟨none,none,none,none,[],rfl,sk,⟨ao,by simp,Ae,by simp⟩,Ae,rfl⟩ (λi σ H' _ h=>(by obtain⟨_,_,_,_,_,_,s1⟩:=h;exact⟨aa.of (s1 _ _ pQ),aa.of (s1 _ _ sr)⟩)) ?_ ?_⟩
 ·rintro i x1 x2 T1 σ H' hi hj ⟨v3,v4,v5,v6,t,rfl,s1,tb,hn,et⟩ hT1;obtain⟨a,ha,rfl⟩:=iu hi;obtain⟨b,hb,rfl⟩:=iu hj;have A7:=l6 hy (bY ha);have jS:=l6 hz Ço;have ng:=ahy i a b ha hb;have T6:y.m[i]? =some a.ns:=by unfold b9.m;rw[bX,ha];rfl
  have T7:z.m[i]? =some b.ns:=by unfold b9.m;rw[bX,hb];rfl
  have eta:=take_snoc T6;have etb:=take_snoc T7;have s2:ai H' (upd H' T1 (.tup [.ref a.a,.ref b.a])):=aK hT1;have T8:BM H (upd H' T1 (.tup [.ref a.a,.ref b.a])) d t:=⟨s2 _ _ tb.d,λp hp=>s2 _ _ (tb.l p hp),tb.nd,tb.fr⟩;have bJ:(y.m.take i).length=(z.m.take i).length:=by rw[mv,mv,iw,iw,cJ]
  refine⟨T1,_,rfl,bu.of ao,rfl,_,_,rfl,_,_,rfl,rfl,?_⟩;have s3:=s1.trans s2;generalize upd H' T1 (.tup [.ref a.a,.ref b.a])=Hx at s3 T8;have RL:∀j,(eT ű Àk++(a.ns.take j).zip Åc).length≤100000:=λj=>by
   have e1:eT y.m z.m=eT ű Àk++(a.ns.zip b.ns++eT (y.m.drop (i+1)) (z.m.drop (i+1))):=by
    have ey:y.m=y.m.take i++(a.ns::y.m.drop (i+1)):=by
     rw[←zw T6];simp
    have ez:z.m=z.m.take i++(b.ns::z.m.drop (i+1)):=by
     rw[←zw T7];simp
    unfold eT
    conv=>lhs;rw[ey,ez,XH bJ,CI,Ac,CZ]
   grind
  refine⟨_,rfl,_,rfl,a.a,b.a,_,_,rfl,aa.of (s3 _ _ A7),aa.of (s3 _ _ jS),Rl (K:=K) (a:=a.a) (b:=b.a) (xs:=iv (nv a.ns)) (ys:=iv (nv b.ns)) (by rw[eX,eX,jB,jB];exact ng)
   (PcJ y z d H a b i)
   ⟨v5,v6,t,rfl,s3,T8,hn,by rw[et];simp⟩ (λj σ H' _ h=>(by obtain⟨_,_,_,_,s4⟩:=h;exact⟨aa.of (s4 _ _ A7),aa.of (s4 _ _ jS)⟩)) ?_ ?_⟩
  ·rintro j x1 x2 T2 σ H2 yR Bk ⟨v5',v6',t2,rfl,s4,zx,lL,so⟩ t9;obtain⟨sg,jR,rfl⟩:=nh yR;obtain⟨bt,T9,rfl⟩:=nh Bk;have e1:=take_snoc jR;have e2:=take_snoc T9;have u9:=(bH.mp jR).1;have s5:ai H2 (upd H2 T2 (.tup [.int (sg:Nat),.int (bt:Nat)])):=aK t9;have s6:=s4.trans s5;have jU:BM H (upd H2 T2 (.tup [.int (sg:Nat),.int (bt:Nat)])) d t2:=⟨s5 _ _ zx.d,λp hp=>s5 _ _ (zx.l p hp),zx.nd,zx.fr⟩;have Ua:iK (eT ű Àk++(a.ns.take (j+1)).zip (b.ns.take (j+1)))=oneAt (iK (eT ű Àk++(a.ns.take j).zip Åc)) (sg,bt):=by
    rw[e1,e2,XH Ç,←rg,←BL];rfl
   have Ub:t2.length≤100000:=by
    have h1:(t2.map cont).length≤(eT ű Àk++(a.ns.take j).zip Åc).length:=by
     rw[so];exact places_len _
    grind
   refine⟨T2,_,rfl,bu.of ao,rfl,_,_,rfl,_,_,rfl,rfl,?_⟩;generalize upd H2 T2 (.tup [.int (sg:Nat),.int (bt:Nat)])=H3 at s6 jU;refine⟨_,rfl,d,rfl,.inl ⟨_,.inl jU.d⟩,_,rfl,dQ _,λq hq=>⟨_,Sum.inl ((sg:Nat):Int),(aK hq) _ _ jU.d,rfl,(by rw[xc];exact gQ Ä),λv hv=>?_,λhv=>?_⟩⟩
   ·rw[yP] at hv;obtain⟨x,hx,rfl⟩:=x9.mp hv;have gq:=xf hx;have nr:=jU.l _ gq;have s7:ai H3 (upd H3 q à):=aK hq;have hxq:=eN nr hq;have Sw:x.a≠d:=λe=>by rw[e,jU.d] at nr;cases nr
    have hxb:x.ns.length≤1000000:=by
     have h1:=zu t2 sg;rw[hx,so] at h1;have h2:=T3 _ h1;grind
    refine⟨.inl ⟨rfl,_,aa.of (s7 _ _ nr)⟩,_,rfl,x.a,_,_,rfl,rfl,s7 _ _ nr,(by rw[eX,jB];exact gQ Ä),?_⟩;refine⟨_,_,d8 t2 sg ⟨x.a,x.ns++[bt]⟩,rfl,qz (s6.trans s7) (jU.fr _ gq),⟨?_,λp hp=>?_,?_,λp hp=>?_⟩,DY lL,?_⟩
    ·rw[au (dJ Sw),ahs (y:=⟨x.a,x.ns++[bt]⟩) hx rfl lL];exact s7 _ _ jU.d
    ·rcases xJ hp with rfl|⟨hp,aQ⟩
     ·rw[ao];simp
     ·rw[au (ahu jU.nd hp gq aQ)];exact s7 _ _ (jU.l p hp)
    ·rw[aht (y:=⟨x.a,x.ns++[bt]⟩) hx rfl lL];exact jU.nd
    ·rcases xJ hp with rfl|⟨hp,aQ⟩
     ·exact jU.fr (sg,x) gq
     ·exact jU.fr p hp
    ·rw[T4,so,Ua];unfold oneAt;rw[←so,zu,hx];rfl
   ·rw[yP] at hv;have hx:bW t2 sg=none:=by
     simp_all
    have s7:ai H3 (upd H3 q à):=aK hq;have Uc:q≠d:=λe=>by rw[e,jU.d] at hq;cases hq
    have Eg:=s6.free hq;have K2:(upd (upd H3 q à) d (.dK (putK (bx gL t2) (Sum.inl ((sg:Nat):Int)) Èh))) q=some à:=by rw[au Uc];exact ao
    refine⟨.inl ⟨rfl,_,aa.of K2⟩,_,rfl,q,_,_,rfl,rfl,K2,(by show 0<sizeLine;exact gQ Ä),?_⟩;refine⟨_,_,d8 t2 sg ⟨q,[bt]⟩,rfl,qz (qz (s6.trans s7) hd) Eg,⟨?_,λp hp=>?_,?_,λp hp=>?_⟩,DY lL,?_⟩
    ·rw[au (dJ Uc),ao];exact cz (λz=>some (HO.dK z)) (Ba gL t2 sg ⟨q,[bt]⟩)
    ·rcases xJ hp with rfl|⟨hp,aQ⟩
     ·rw[ao];rfl
     ·have df:=jU.l p hp;rw[au (eN df hq),au (λe=>by rw[e,jU.d] at df;cases df)];exact s7 _ _ df
    ·unfold d8;rw[pb,hx];show((t2++[(sg,(⟨q,[bt]⟩:cK))]).map λp=>p.2.a).Nodup;rw[bV];refine Ij jU.nd λm=>?_;obtain⟨p,hp,e⟩:=cb.mp m;have df:=jU.l p hp;simp_all
    ·rcases xJ hp with rfl|⟨hp,aQ⟩
     ·omega
     ·exact jU.fr p hp
    ·rw[T4,so,Ua];unfold oneAt;rw[←so,zu,hx];rfl
  ·rintro σ H2 ⟨v5,v6,t2,rfl,s4,zx,lL,so⟩;refine⟨_,_,_,_,t2,rfl,s4,zx,lL,?_⟩;rw[so,eta,etb,eX,jB,mx,Gx (l:=b.ns) (i:=a.ns.length) Ä];unfold eT;rw[XH bJ,Ac];simp
 ·rintro σ H' ⟨v3,v4,v5,v6,t,rfl,s1,tb,hn,et⟩;rw[aA,Gx (by rw[iw];exact bO _),Gx (by rw[iw];omega)] at et;exact⟨_,rfl,k H' d t s1 hd tb et⟩
end
structure su where
 a:Addr
 zs:LI
structure gr where
 a:Addr
 dx:Addr
 sm:Addr
 gp:Addr
 sp:Addr
 sames:LN
 eA:List (Nat×su)
 fu:LI
def gA(x:su):V:=.ref x.a
def gH(p:Nat×su):Nat×LI:=(p.1,p.2.zs)
def ux(p:gr):List (Str×V):=[("sames",.ref p.sm),("gaps",.ref p.gp),("spares",.ref p.sp)]
def Ud(p:gr):(ux p).lookup ("sames":Str)=some (.ref p.sm):=ip
def LR(p:gr):(ux p).lookup ("gaps":Str)=some (.ref p.gp):=(fO È).trans ip
def Ue(p:gr):(ux p).lookup ("spares":Str)=some (.ref p.sp):=(fO È).trans ((fO È).trans ip)
structure ou(CP:Addr)(H:Hp)(p:gr):Prop where
 a:H p.a=some (.ins CP p.dx (ux p))
 sm:H p.sm=some (.lst (iv (nv p.sames)))
 gp:H p.gp=some (.dK (bx gA p.eA))
 gl:∀q∈p.eA,H q.2.a=some (.lst (iv q.2.zs))
 sp:H p.sp=some (.lst (iv p.fu))
def cy(z:Int):Int:=if z>0 then z else 0
def Fc(G:Nat)(l:Int)(places:LN):LI:=(List.range G).map λg=>l-((qK g places:Nat):Int)
def nt(G:Nat)(lacks:List (Nat×Int))(Fd:List (Nat×LN)):List (Nat×LI):=lacks.map λp=>(p.1,Fc G p.2 ((bW Fd p.1).getD []))
def xK(G:Nat)(sp own:LI):LI:=(List.range G).map λg=>sp.getD g 0-cy (own.getD g 0)
def qM(G:Nat)(sp:LI)(eA:List (Nat×LI)):LI:=eA.foldl (λsp p=>xK G sp p.2) sp
def ahB(G:Nat)(sp own:LI):(xK G sp own).length=G:=by unfold xK;rw[aA,gX]
theorem Ug(G:Nat)(eA:List (Nat×LI)):∀(sp:LI),sp.length=G→(qM G sp eA).length=G:=by
 induction eA with
 |nil=>exact @λsp h=>h
 |cons p eA ih=>
  intro sp h;exact ih _ (ahB G sp p.2)
def ahC(G:Nat)(sp:LI)(eA:List (Nat×LI))(p:Nat×LI):qM G sp (eA++[p])=xK G (qM G sp eA) p.2:=by
 unfold qM;simp
def Uh(h:p∈nt G lacks Fd):p.2.length=G:=by
 unfold nt at h;obtain⟨q,_,rfl⟩:=cb.mp h;unfold Fc;simp
inductive Ui(CK CP:Addr)(vs:aq)(H:Hp)(Q:VK)(E':XK):Prop
 |mk (pk ps pl pp:Addr) (ks:List az) (sames:LN) (lacks:List (Nat×Int)) (t:List (Nat×cK)) (_:vs=[.ref pk,.ref ps,.ref pl,.ref pp]) (_:ů ks) (_:H ps=some ϶) (_:BF Ë sames) (_:sames.length≤10) (_:H pl=some ê) (_:(lacks.map (·.1)).Nodup) (_:lacks.length≤1000) (_:H pp=some (.dK (bx gL t))) (_:(∀p∈t,H p.2.a=some (.lst (iv (nv p.2.ns))))) (_:(∀p∈t,p.2.ns.length≤1000)) (_:(∀p∈lacks,(bW t p.1).isSome=true)) (_:pp≠pl) (_:∀H' p,ai H H'→ou CP H' p→H p.a=none→H p.gp=none→p.a≠p.gp→p.sm=ps→p.sames=sames→p.eA.map gH=nt (2^sames.length) lacks Áv→p.fu=qM (2^sames.length) ((List.range (2^sames.length)).map (qL Ë sames)) Äx→Q Âq H')
section
variable{P:Pg}{w:Wd}{K:FR}{mg:MG}{base:Heap}{CK CL CS N CV CP:Addr}{C:Cs}
def Uj:bootBuiltins "list"=some (.type "list"):=by decide+kernel
def Fe:bootBuiltins "max"=some (.builtin "max"):=by decide+kernel
def ox:bC ["kinds","sames","lacks","places","groups","gaps","sign","lack","group","spares","own"] ["kinds","sames","lacks","places"] (a7 JS):=cu
inductive PnI(pk ps pl pp gl d:Addr)(B:Hp)(G:Nat)(lacks:List (Nat×Int))(t:List (Nat×cK))(i:Nat)(σ:L2.St)(H':Hp):Prop
 |mk (v6 v7 tt:_) (_:σ=[some (.ref pk),some (.ref ps),some (.ref pl),some (.ref pp),some (.ref gl),some Èj,v6,v7,none,none,none]) (_:ai B H') (_:H' d=some Ĥ) (_:(∀q∈tt,H' q.2.a=some (.lst (iv q.2.zs)))) (_:(∀q∈tt,B q.2.a=none)) (_:tt.map gH=nt G (lacks.take i) Áv)
def ahE(F:br K "plan_of" "plan_of" JS f fd)(TP:lu K CP ["sames","gaps","spares"])(tL:mg "len"=none)(LU:mg "list"=none)(tR:mg "range"=none)(tM:mg "max"=none)(dP:ÿ "Plan" CP ["sames","gaps","spares"]) (dO:Å 1 "places_outside" ["group","places"] (LG K)) (dC:Å 1 "copies_in" ["group","kinds","sames"] (LH CK)):Ê aE 3 f fd ["kinds","sames","lacks","places"] (Ui CK CP):=by
 refine F.ok ox À;obtain⟨pk,ps,pl,pp,ks,sames,lacks,t,rfl,hk,jT,gj,ahF,df,zy,Uk,xI,Ub,LW,ir,aQ,k⟩:=h;have hu:A.units+3+1<cLine:=oQ Â hr.un;refine⟨_,aB (cq 4 ox.nd (wK (ac2 rfl) Ò LU Uj (ae (wK ac1 Ò tR boot_range (ae (eP Hu bh ù) ag)) ag)))
  (aB (cq 5 ox.nd Dz)
  (aB (QC (Š (QG è) (iB 6 7 ox.nd)
   (aD (Ib (yK hr) Ãx Ãe (eB (own:=[("group",8)]) (te:=bQ (gv λi j=>.int (i-j)) Èf (gY (LG K) [] E0 (bg (ay 8) (bg (Qv Ŗ (ay 6)) du)))) rfl ox.nd (eV ı) É
    (Ái) Ó (λ_ _ _ _ _=>eP qk Åf (bz dO (ae (pv 8) (ae (Qw hu õ Ãe Õ) ag))))) rfl))))
  (aB (cq 9 ox.nd (eB (own:=[("group",8)]) (te:=gY (LH CK) [] E0 (bg (ay 8) (bg ώ (bg ϖ du)))) rfl ox.nd (eV ı) É
    (Ái) Ó (λ_ _ _ _ _=>bz dC (ae (pv 8) (ae Ù Œ)))))
  (aB (QC (Š (abI Ãx) (dv 10 ox.nd)
   (aD (cq 9 ox.nd (eB (own:=[("group",8)]) (te:=bQ (gv λi j=>.int (i-j)) (bQ ύ (ay 9) (ay 8)) (ql (λxs H Q=>∃i j,xs=[.int i,.int j]∧Q (.int (if j>i then j else i)) H) (bg Ãu (bg (bQ ύ (ay 10) (ay 8)) du)))) rfl ox.nd (eV ı) É
    (Ái) Ó (λ_ _ _ _ _=>eP qk (cA cQ (pv 9) (pv 8) Õ) (c6 (Hy rfl) Ò tM Fe (ae bh (ae (cA cQ (pv 10) (pv 8) Õ) ag)))))))))
  (aD (aZ (pF dP hr (ae á (ae Ãx (ae (pv 9) ag)))))))))),?_⟩
 have hG:2^sames.length≤1024:=GU Ø ahF;have hG0:0<2^sames.length:=Nat.pow_pos Ø;refine⟨_,rfl,ps,_,rfl,.inl (aa.of jT),_,_,rfl,rfl,⟨by omega,by grind,by decide⟩,2^sames.length,?_,λr zA=>⟨r,2^sames.length,rfl,ao,by omega,λgl ni=>?_⟩⟩
 ·simp
 generalize hGG:2^sames.length=G at hG hG0 ni⊢;have s0:ai H (upd (upd H r (.rl 0 ((G:Nat):Int))) gl (.lst ((List.range G).map λi=>V.int ((i:Nat):Int)))):=(aK zA).trans (aK ni);have BN:(upd (upd H r (.rl 0 ((G:Nat):Int))) gl (.lst ((List.range G).map λi=>V.int ((i:Nat):Int)))) gl=some (.lst (iv Àx)):=by
  rw[ao];simp
 generalize upd (upd H r (.rl 0 ((G:Nat):Int))) gl (.lst ((List.range G).map λi=>V.int ((i:Nat):Int)))=H0 at s0 BN;intro d hd;have ly:d≠pl:=λe=>by rw[e,s0 _ _ df] at hd;cases hd
 have ahH:(Ãt) pl=some ê:=by rw[au (dJ ly)];exact s0 _ _ df
 refine⟨pl,_,ahH,True.intro,λod=>?_⟩;have Ul:(Áu) d=none:=by rw[au ly];exact hd
 have Ff:(Áu) pl=some ż:=ao;have BO:∀b o,H0 b=some o→b≠pl→(Áu) b=some o:=λb o e hb=>by rw[au hb];exact e
 have hB0:∀b,(Áu) b=none→H0 b=none:=λb e=>by
  by_cases hb:b=pl
  ·simp_all
  ·rw[au hb] at e;exact e
 have Fg:ai Áu (upd Ãt pl ż):=λb o e=>by
  by_cases hb:b=pl
  ·subst hb;rw[ao] at e⊢;exact e
  ·rw[au hb] at e⊢;rw[au (eN e hd)];exact e
 have Um:(upd Ãt pl ż) d=some (.dK (bx gA [])):=by rw[au ly];exact ao
 generalize qh:upd Ãt pl ż=S1 at Fg Um;generalize hB:upd H0 pl ż=B at Ul Ff BO hB0 Fg;have bpp:=BO _ _ (s0 _ _ xI) aQ;have btl:=λp hp=>BO _ _ (s0 _ _ (Ub p hp)) (λe=>by grind);have Uo:=BO _ _ BN (λe=>by rw[e,s0 _ _ df] at BN;cases BN);refine⟨_,rfl,pl,od,_,rfl,Fg _ _ Ff,acL (d:=pl) (o:=od) (kvs:=bx V.int lacks) (PnI pk ps pl pp gl d B G lacks t)
  ⟨none,none,[],rfl,Fg,Um,by simp,by simp,rfl⟩ (λi σ H' _ h=>(by obtain⟨_,_,_,_,s1⟩:=h;exact s1 _ _ Ff)) ?_ ?_⟩
 ·rintro i kk vv Tt σ H' hi ⟨v6,v7,tt,rfl,s1,uw,vI,hqf,pR⟩ hT;obtain⟨sg,l,h1,rfl,rfl⟩:=IA V.int hi;have dY:=(bH.mp h1).1;have et:=take_snoc h1;have jf:=bY h1;obtain⟨x,hx⟩:=Gs.mp (ir _ jf);have hx:=hx;have gq:=xf hx;have s2:ai H' (Ϡ (.tup [kV (Sum.inl ((sg:Nat):Int)),V.int l])):=aK hT;have s3:=s1.trans s2;refine⟨Tt,_,rfl,bu.of ao,rfl,_,_,rfl,_,_,rfl,rfl,?_⟩;generalize hHx:Ϡ (.tup [kV (Sum.inl ((sg:Nat):Int)),V.int l])=Hx at s2 s3⊢;refine⟨_,rfl,gl,rfl,⟨_,aa.of (s3 _ _ Uo)⟩,λD hD=>gy (K:=K) (a:=gl) (xs:=iv Àx) (ft Hx D λg=>l-((qK g x.ns:Nat):Int)) Áy (λj H2 _ f=>aa.of (f.1 _ _ (s3 _ _ Uo))) (λj y H2 hj f=>?_) Åw⟩
  ·obtain⟨z,hz,rfl⟩:=nh hj;have qt:=(bH.mp hz).1;rw[gX] at qt;cases xp hz;have s4:=s3.trans f.1;have sv:=jK.k (k:=(Sum.inl ((sg:Nat):Int):Key)) (s4 _ _ bpp);rw[yP,hx] at sv;exact⟨rfl,eJ ⟨_,rfl,_,rfl,_,rfl,_,rfl,pp,_,rfl,sv,j,x.a,x.ns,rfl,aa.of (s4 _ _ (btl _ gq)),LW _ gq,λH3 s5=>⟨_,_,rfl,rfl,(ft.step hD Ä f s5 rfl)⟩⟩⟩
  ·have fA:=f.2;rw[eX,jB,gX] at fA;have s4:=s2.trans f.1;have hDB:=s3.free hD;have ahM:=s4 _ _ uw;have htn:bW tt sg=none:=by
    cases e:bW tt sg with
    |none=>rfl
    |some u=>
     have h2:=xf e;have h3:sg∈(tt.map gH).map (·.1):=cb.mpr ⟨gH (sg,u),cb.mpr ⟨_,h2,rfl⟩,rfl⟩;rw[pR] at h3;unfold nt at h3;rw[cO] at h3;obtain⟨q,hq,e2⟩:=cb.mp h3;have e2:=e2;exfalso;have BJ:=zy;have e3:lacks.map (·.1)=(lacks.take i).map (·.1)++sg::(lacks.drop (i+1)).map (·.1):=by
      conv=>lhs;rw[←OF i lacks,zw h1,bV,aY]
     grind
   have cJ:tt.length≤1000:=by
    have:(tt.map gH).length=(nt G (lacks.take i) Áv).length:=by rw[pR]
    unfold nt at this;grind
   refine⟨_,rfl,_,rfl,d,_,rfl,wY.k (k:=Sum.inl ((sg:Nat):Int)) ahM (by rw[xc];exact gQ Ä),?_⟩;have Up:putK (bx gA tt) (Sum.inl ((sg:Nat):Int)) Áe=bx gA (tt++[(sg,⟨D,(List.range G).map λg=>l-((qK g x.ns:Nat):Int)⟩)]):=by
    have:=Ba gA tt sg ⟨D,(List.range G).map λg=>l-((qK g x.ns:Nat):Int)⟩;unfold d8 at this;rw[pb,htn] at this;exact this
   refine⟨_,_,tt++[(sg,⟨D,(List.range G).map λg=>l-((qK g x.ns:Nat):Int)⟩)],rfl,qz (s1.trans s4) Ul,?_,λq hq=>?_,λq hq=>?_,?_⟩
   ·rw[ao];simp_all
   ·rcases gK.mp hq with hq|hq
    ·have h2:=s4 _ _ (vI q hq);rw[au (λe=>by simp_all)];omega
    ·have:q=(sg,⟨D,(List.range G).map λg=>l-((qK g x.ns:Nat):Int)⟩):=by simpa using hq
     subst this;rw[au (λe=>by simp_all)];omega
   ·grind
   ·rw[et,bV,pR];unfold nt;rw[bV];congr 1;show[gH _]=[(sg,Fc G l ((bW Áv sg).getD []))];rw[zu,hx];rfl
 ·rintro σ H' ⟨v6,v7,tt,rfl,s1,uw,vI,hqf,pR⟩;rw[xc,mx] at pR;refine⟨s1 _ _ Ff,?_⟩;have s5:ai H0 Çx:=λb o e=>by
   by_cases hb:b=pl
   ·subst hb;rw[ao];rw[s0 _ _ df] at e;omega
   ·rw[au hb];exact s1 _ _ (BO _ _ e hb)
  have Uq:(Çx) d=some Ĥ:=by rw[au ly];exact uw
  have Ur:∀q∈tt,(Çx) q.2.a=some (.lst (iv q.2.zs)):=λq hq=>by
   have h2:=vI q hq;rw[au (λe=>by grind)];omega
  generalize upd H' pl ê=H5 at s5 Uq Ur;have s6:=s0.trans s5;have hdH:=s0.free hd;have LX:=s5 _ _ BN;refine⟨_,rfl,gl,rfl,⟨_,aa.of LX⟩,λD hD=>gy (K:=K) (a:=gl) (xs:=iv Àx) (ft H5 D λg=>qL Ë sames g) Áy (λj H2 _ f=>aa.of (f.1 _ _ LX)) (λj y H2 hj f=>?_) Åw⟩
  ·obtain⟨z,hz,rfl⟩:=nh hj;have qt:=(bH.mp hz).1;rw[gX] at qt;cases xp hz;have s7:=s6.trans f.1;exact⟨rfl,eJ ⟨_,rfl,_,rfl,_,rfl,j,pk,ps,ks,sames,rfl,hk.same s7,s7 _ _ jT,gj,λH3 s8=>(ft.step hD Ä f s8 rfl)⟩⟩
  ·have jd:=f.2;have s7:=f.1;rw[eX,jB,gX] at jd;have LY:=s7 _ _ Uq;have ahP:=s7 _ _ LX;have Us:=λq hq=>s7 _ _ (Ur q hq);have s8:=s6.trans s7;have hDH:=s6.free hD;refine⟨d,_,LY,True.intro,λuz=>?_⟩;have b1:(Çw) d=some Ät:=ao;have b2:∀b o,H2 b=some o→b≠d→(Çw) b=some o:=λb o e hb=>by rw[au hb];exact e
   have b3:∀b o,H2 b=some Æy→(Çw) b=some Æy:=λb o e=>b2 b _ e (λz=>by simp_all);generalize upd H2 d Ät=B2 at b1 b2 b3;have ahQ:((List.range G).map λg=>qL Ë sames g).length=G:=by rw[aA,gX]
   refine⟨_,rfl,d,uz,_,rfl,b1,acM (d:=d) (o:=uz) (kvs:=bx gA tt) (λi σ H'=>∃x8 sp,σ=[some (.ref pk),some (.ref ps),some (.ref pl),some (.ref pp),some (.ref gl),some Èj,v6,v7,none,some (.ref sp),x8]∧ai B2 H'∧H' sp=some (.lst (iv (qM G ((List.range G).map λg=>qL Ë sames g) ((tt.map gH).take i)))))
    ⟨none,D,rfl,ai.refl B2,b3 _ _ jd⟩ (λi σ H' _ ⟨_,_,_,s9,_⟩=>s9 _ _ b1) ?_ ?_⟩
   ·rintro i kk vv σ H' hi ⟨x8,sp,rfl,s9,zB⟩;obtain⟨sg,x,h1,rfl,rfl⟩:=IA gA hi;have jf:=bY h1;have nr:=s9 _ _ (b3 _ _ (Us _ jf));have ue:(tt.map gH)[i]? =some (sg,x.zs):=by rw[bX,h1];rfl
    have et:=take_snoc ue;have hxG:x.zs.length=G:=Uh (p:=(sg,x.zs)) (by rw[←pR];exact bY ue);have hcG:=Ug G ((tt.map gH).take i) _ ahQ;have Ut:=s9 _ _ (b3 _ _ ahP);rw[et,ahC];generalize qM G ((List.range G).map λg=>qL Ë sames g) ((tt.map gH).take i)=cur at zB hcG;refine⟨_,rfl,gl,rfl,⟨_,aa.of Ut⟩,λD2 cE=>gy (K:=K) (a:=gl) (xs:=iv Àx) (ft H' D2 λg=>cur.getD g 0-cy (x.zs.getD g 0)) (ft.zero cE) (λj H3 _ f=>aa.of (f.1 _ _ Ut)) (λj y H3 hj f3=>?_) (λH3 f3=>?_)⟩
    ·obtain⟨z,hz,rfl⟩:=nh hj;have qt:=(bH.mp hz).1;rw[gX] at qt;cases xp hz;exact⟨rfl,eJ ⟨_,rfl,_,rfl,sp,_,_,.int (cur.getD j 0),rfl,rfl,aa.of (f3.1 _ _ zB),fZ (xD Ä),_,rfl,_,rfl,x.a,_,_,.int (x.zs.getD j 0),rfl,rfl,aa.of (f3.1 _ _ nr),fZ (xD Ç),_,_,rfl,_,_,rfl,rfl,(ft.step cE Ä f3 (ai.refl H3) rfl)⟩⟩
    ·have e3:=f3.2;rw[eX,jB,gX] at e3;exact⟨_,D2,rfl,s9.trans f3.1,e3⟩
   ·rintro σ H' ⟨x8,sp,rfl,s9,zB⟩;rw[xc,←aA (f:=gH),mx] at zB;refine⟨s9 _ _ b1,?_⟩;have nY:ai H2 (upd H' d Ĥ):=λb o e=>by
     by_cases hb:b=d
     ·subst hb;rw[ao];simp_all
     ·rw[au hb];exact s9 _ _ (b2 _ _ e hb)
    have Uu:(upd H' d Ĥ) sp=some (.lst (iv (qM G ((List.range G).map λg=>qL Ë sames g) (tt.map gH)))):=by
     rw[au (λe=>by rw[e,s9 _ _ b1] at zB;cases zB)];omega
    have kq:=s8.trans nY;generalize upd H' d Ĥ=H7 at nY Uu kq;refine⟨_,rfl,_,rfl,_,rfl,vD rfl λx dx H8 hx iV apP e8 eY=>?_⟩;refine k H8 ⟨x,dx,ps,d,sp,sames,tt,_⟩ (kq.trans eY) ⟨e8,(kq.trans eY) _ _ jT,(nY.trans eY) _ _ LY,λq hq=>(nY.trans eY) _ _ (Us q hq),eY _ _ Uu⟩ (kq.free hx) hdH ?_ rfl rfl Ç (by rw[hGG];rfl);intro e;have e:x=d:=e;rw[e,nY _ _ LY] at hx;simp_all
end
def uA(g same:Nat):Bool:=Builtin.bitAnd (g:Int) (same:Int)!=0
def sy(same:Nat):Int:=if ((same:Nat):Int)!=0 then-1 else 0
def jV(b:Bool):Int:=if b=true then 1 else 0
def iL(before:LI)(bits same:Nat):LI:=(List.range before.length).map λg=>before.getD g 0+sy same+jV (gU g bits)
def jl(before fu:LI)(bits same:Nat):LI:=(List.range fu.length).map λg=>fu.getD g 0+cy (before.getD g 0)-cy ((iL before bits same).getD g 0)-jV (uA g same)
def uB(x y:Addr)(H H':Hp):Prop:=∀b o,H b=some o→b≠x→b≠y→H' b=some o
def uB.refl:uB x y H H:=λ_ _ e _ _=>e
def ai.x{x y:Addr}{H H':Hp}(s:ai H H'):uB x y H H':=λb o e _ _=>s b o e
def gr.own(p:gr):LA:=p.sm::p.sp::p.eA.map λq=>q.2.a
def sA(H:Hp)(p p':gr):Prop:=∀a∈p'.own,a∈p.own∨H a=none
inductive Uv(CP:Addr)(vs:aq)(H:Hp)(Q:VK)(E':XK):Prop
 |mk (p:gr) (sg bits same:Nat) (x:su) (_:vs=[.ref p.a,.int (sg:Nat),.int (bits:Nat),.int (same:Nat)]) (_:ou CP H p) (_:p.a≠p.gp) (_:bW p.eA sg=some x) (_:x.zs.length=p.fu.length) (_:0<p.fu.length) (_:p.fu.length≤2000) (_:p.eA.length≤2000) (_:(p.eA.map (·.1)).Nodup) (_:((Ϧ same).any (λz=>decide (z<0))=true→∀H',ai H H'→Q (.bl false) H')) (_:((Ϧ same).any (λz=>decide (z<0))=false→∀H' p',ou CP H' p'→p'.a=p.a→p'.gp=p.gp→p'.sm=p.sm→p'.sames=p.sames→p'.eA.map gH=d8 Äx sg (ď same)→p'.fu=jl x.zs p.fu bits same→uB p.a p.gp H H'→sA H p p'→Q (.bl true) H'))
theorem LZ(t:List (Nat×su))(s:Nat):bW (t.map gH) s=(bW t s).map su.zs:=by
 induction t with
 |nil=>rfl
 |cons p t ih=>
  unfold bW at ih⊢;rw[aY,j5,j5,show(gH p).1=p.1 from rfl];cases decide (p.1=s) with
  |true=>rfl
  |false=>exact ih
def ahS(t:List (Nat×su))(s:Nat)(x:su):(d8 t s x).map gH=d8 (t.map gH) s x.zs:=by
 unfold d8;rw[pb,pb,LZ,CM];split
 ·rw[cO,cO];refine j6 λp _=>?_;show gH (if p.1=s then (p.1,x) else p)=if p.1=s then (p.1,x.zs) else gH p;split <;> rfl
 ·rw[bV];rfl
section
variable{P:Pg}{w:Wd}{K:FR}{mg:MG}{base:Heap}{CK CL CS N CV CP:Addr}{C:Cs}
def Uw:bootBuiltins "min"=some (.builtin "min"):=by decide+kernel
abbrev Ux:aq→Hp→VK→Prop:=λxs H Q=>∃i j,xs=[.int i,.int j]∧Q (.int (if j>i then j else i)) H
def vP:bC ["plan","sign","bits","same","before","needs","gaps","group","gap","spares","spare"] ["plan","sign","bits","same"] (a7 JX):=cu
def ahT(F:br K "hang" "hang" JX f fd)(TP:lu K CP ["sames","gaps","spares"])(tE:mg "enumerate"=none)(tM:mg "max"=none)(tN:mg "min"=none):Ê aE 1 f fd ["plan","sign","bits","same"] (Uv CP):=by
 refine F.ok vP À;obtain⟨p,sg,bits,same,x,rfl,hp,Fh,hx,nr,TF,AI,ni,BJ,k1,k2⟩:=h;refine⟨_,aB (cq 4 vP.nd (Qw (yK hr) ë á Õ))
  (aB (cq 5 vP.nd (rB (yr õ Ãq) Ák bh))
  (aB (cq 6 vP.nd (eB (own:=[("group",7),("gap",8)]) (g:=g2 K 7 8)
   (te:=bQ (gv λi j=>.int (i+j)) (bQ (gv λi j=>.int (i+j)) (ay 8) (ay 5)) (wz (BH K (bQ (gv λi j=>.int ŏ) ŗ (Dk (rU λi=>.int Äq) Èf))) Äv Ãu)) rfl vP.nd
   (ku Ò tE ϣ) É
   (λ_ _ _ _ _=>iB 7 8 vP.nd) Ó
   (λ_ _ _ _ _=>eP qj (eP qj (pv 8) Ãx) (rB (yr (eP Ay è (js Pi Åf)) Ãq) bh bh))))
  (aB (tW (i:=9) (own:=[("group",7),("spare",10)]) (g:=g2 K 7 10)
   (te:=bQ (gv λi j=>.int (i-j)) (bQ (gv λi j=>.int (i-j)) (bQ (gv λi j=>.int (i+j)) (ay 10) (ql Ux (bg Ãu (bg (bQ ύ Ãi Èf) du)))) (ql Ux (bg Ãu (bg (bQ ύ (ay 6) Èf) du)))) (wz (BH K (bQ (gv λi j=>.int ŏ) Èf Ŗ)) Äv Ãu)) rfl vP.nd rfl rfl Ò
   (ku Ò tE Æp) É
   (λ_ _ _ _ _=>iB 7 10 vP.nd) Ó
   (λ_ _ _ _ _=>eP qk (eP qk (eP qj (pv 10) (c6 (Hy rfl) Ò tM Fe (ae bh (ae (cA cQ ı Åf Õ) ag)))) (c6 (Hy rfl) Ò tM Fe (ae bh (ae (cA cQ Ãe Åf Õ) ag)))) (rB (yr (eP Ay Åf õ) Ãq) bh bh)))
  (aB (dq (cI wH (c6 (P5 rfl) Ò tN Uw (ae (pv 9) ag)) bh (bT _)) Âa d7)
  (aB (Ib (yK hr) ë á Ãe rfl)
  (aB (e9 Ù (pv 9) rfl)
  Âa)))))),?_⟩
 have gq:=xf hx;have jO:=hp.gl _ gq;have sv:=jK.k (k:=(Sum.inl ((sg:Nat):Int):Key)) hp.gp;rw[yP,hx] at sv;refine⟨_,rfl,bo hp.a TP.1 (TP.2 _ Â) (LR p) ⟨_,rfl,p.gp,_,rfl,sv,?_⟩⟩;dsimp only;refine Rk (Rj (((same:Nat):Int)!=0) (.int (sy same)) (λK q=>⟨_,rfl,_,rfl,q⟩) (λe K q=>Ď) Ϫ ?_)
 ·unfold sy at q;simp_all
 ·unfold sy at q;rw[ah Ç] at q;exact q
 refine⟨_,rfl,x.a,_,rfl,aa.of jO,λD hD=>lj (K:=K) (a:=x.a) (xs:=iv x.zs) (ft H D λg=>x.zs.getD g 0+sy same+jV (gU g bits)) Áy (λi H' _ f=>aa.of (f.1 _ _ jO)) Ág ø⟩
 ·obtain⟨z,hz,rfl⟩:=rS hi;have dY:=(bH.mp hz).1;have s1:ai H' (Ϡ (.tup [.int (i:Nat),.int z])):=aK hT;refine Ü;refine⟨_,rfl,_,rfl,_,_,rfl,rfl,DV (gU i bits) (.int (jV (gU i bits))) (λK q=>⟨_,rfl,_,rfl,_,rfl,_,_,rfl,rfl,_,rfl,q⟩) Ϫ Ϫ Ây⟩
  ·rw[e] at q;exact q
  ·rw[e] at q;exact q
  ·refine ft.step hD Ä f s1 ?_;simp_all
 ·have vQ:=f.2;have s1:=f.1;rw[eX] at vQ;have vQ:H' D=some (.lst (iv (ď same))):=vQ;have apQ:(ď same).length=x.zs.length:=by unfold iL;rw[aA,gX]
  have ahU:=s1 _ _ jO;have ahV:=s1 _ _ hp.a;have Uy:=s1 _ _ hp.sp;refine⟨_,rfl,bo ahV TP.1 (TP.2 _ Â) (Ue p) ⟨p.sp,_,rfl,aa.of Uy,λD2 cE=>lj (K:=K) (a:=p.sp) (xs:=iv p.fu) (ft H' D2 λg=>p.fu.getD g 0+cy (x.zs.getD g 0)-cy ((ď same).getD g 0)-jV (uA g same)) (ft.zero cE) (λi H2 _ f=>aa.of (f.1 _ _ Uy)) (λi v Tt H2 hi f2 hT=>?_) (λH2 f2=>?_)⟩⟩
  ·obtain⟨z,hz,rfl⟩:=rS hi;have dY:=(bH.mp hz).1;have s2:ai H2 (upd H2 Tt (.tup [.int (i:Nat),.int z])):=aK hT;have s3:=f2.1.trans s2;refine Ü;refine⟨_,rfl,_,rfl,_,rfl,x.a,_,_,.int (x.zs.getD i 0),rfl,rfl,aa.of (s3 _ _ ahU),fZ (xD (by show i<x.zs.length;omega)),_,_,rfl,_,_,rfl,rfl,
    _,rfl,_,rfl,D,_,_,.int ((ď same).getD i 0),rfl,rfl,aa.of (s3 _ _ vQ),fZ (xD Ä),_,_,rfl,_,_,rfl,rfl,
    DV (uA i same) (.int (jV (uA i same))) (λK q=>⟨_,rfl,_,rfl,_,_,rfl,rfl,_,rfl,q⟩) Ϫ Ϫ Ây⟩
   ·rw[e] at q;exact q
   ·rw[e] at q;exact q
   ·refine ft.step cE Ä f2 s2 ?_;rw[getD_at hz];rfl
  ·have hS:=f2.2;have s2:=f2.1;rw[eX] at hS;have hS:H2 D2=some (.lst (iv (Ϧ same))):=hS;have ahW:(Ϧ same).length=p.fu.length:=by unfold jl;rw[aA,gX]
   have s3:=s1.trans s2;generalize jl x.zs p.fu bits same=sps at hS ahW k1 k2;refine⟨_,rfl,D2,sps,rfl,aa.of hS,by omega,λm hm j0=>⟨_,_,rfl,rfl,_,rfl,a9 Í Í⟩⟩
   ·simp at hc;exact k1 (uP.mpr ⟨m,hm,eF hc⟩) H2 s3
   ·simp at hc;have L6:sps.any (λz=>decide (z<0))=false:=by
     grind
    have k3:=k2 L6;have Uz:=s3 _ _ hp.a;have ahX:=s3 _ _ hp.gp;have apR:=s2 _ _ vQ;have Fi:=hD;have Fj:=s1.free cE;have apS:D≠p.gp:=λe=>by rw[e,hp.gp] at Fi;cases Fi
    have apT:D≠p.a:=λe=>by rw[e,hp.a] at Fi;cases Fi
    have apU:D2≠p.gp:=λe=>by rw[e,hp.gp] at Fj;cases Fj
    have apV:D2≠p.a:=λe=>by rw[e,hp.a] at Fj;cases Fj
    refine⟨_,rfl,_,rfl,bo Uz TP.1 (TP.2 _ Â) (LR p) ⟨_,rfl,p.gp,_,rfl,wY.k (k:=Sum.inl ((sg:Nat):Int)) ahX (by rw[xc];exact gQ Ä),?_⟩⟩;have Up:putK (bx gA p.eA) (Sum.inl ((sg:Nat):Int)) Áe=bx gA Àl:=Ba gA p.eA sg ⟨D,ď same⟩;rw[Up];refine⟨_,rfl,_,rfl,p.a,CP,p.dx,ux p,rfl,(by rw[au Fh];exact Uz),TP.1,TP.2 _ Â,(by show 3<1000;decide),?_⟩;have ef:hZ ("spares":Str) (.ref D2) (ux p)=ux ⟨p.a,p.dx,p.sm,p.gp,D2,p.sames,d8 p.eA sg ⟨D,ď same⟩,sps⟩:=by
     rfl
    rw[ef];have hx:∀b o,H2 b=some o→b≠p.a→b≠p.gp→(upd (upd H2 p.gp (.dK (bx gA Àl))) p.a (.ins CP p.dx (ux ⟨p.a,p.dx,p.sm,p.gp,D2,p.sames,d8 p.eA sg ⟨D,ď same⟩,sps⟩))) b=some o:=λb o e h1 h2=>by
     rw[au h1,au h2];omega
    have nr:∀b o,H2 b=some Æy→(upd (upd H2 p.gp (.dK (bx gA Àl))) p.a (.ins CP p.dx (ux ⟨p.a,p.dx,p.sm,p.gp,D2,p.sames,d8 p.eA sg ⟨D,ď same⟩,sps⟩))) b=some Æy:=λb o e=>hx b _ e (λz=>by simp_all) (λz=>by simp_all);refine k3 _ ⟨p.a,p.dx,p.sm,p.gp,D2,p.sames,d8 p.eA sg ⟨D,ď same⟩,sps⟩ ⟨ao,nr _ _ (s3 _ _ hp.sm),?_,λq hq=>?_,nr _ _ hS⟩ rfl rfl rfl rfl (ahS _ _ _) rfl (λb o e h1 h2=>hx b o (s3 _ _ e) h1 h2) (λa ha=>?_)
    ·rw[au (dJ Fh),ao]
    ·rcases xJ hq with rfl|⟨hq,_⟩
     ·simp_all
     ·exact nr _ _ (s3 _ _ (hp.gl q hq))
    ·unfold gr.own at ha⊢;rcases bf.mp ha with rfl|ha
     ·simp
     ·rcases bf.mp ha with rfl|ha
      ·simp_all
      ·obtain⟨q,hq,rfl⟩:=cb.mp ha;rcases xJ hq with rfl|⟨hq,_⟩
       ·simp_all
       ·grind
end
abbrev gZ:=List (Nat×LI)×LI
def nu(l:LI):Bool:=!l.any λz=>decide (z<0)
def qN(st:gZ)(sg bits same:Nat)(row:LI):gZ:=(d8 st.1 sg (iL row bits same),jl row st.2 bits same)
def uD(sames:LN)(st:gZ)(sg bits:Nat)(row:LI):LN→Option (Nat×gZ)
 |[]=>none
 |b::r=>if nu (jl row st.2 bits (2^b))=true then some (sames.getD b 0,qN st sg bits (2^b) row) else uD sames st sg bits row r
def oy(n bits:Nat):LN:=(List.range n).filter (xH bits)
def ny(sames:LN)(st:gZ)(sg bits:Nat):Option (Nat×gZ):=match bW st.1 sg with
 |none=>some (sg,st)
 |some row=>if nu (jl row st.2 bits 0)=true then some (sg,qN st sg bits 0 row) else uD sames st sg bits row (oy sames.length bits)
def gr.st(p:gr):gZ:=(p.eA.map gH,p.fu)
structure l8(CP:Addr)(H:Hp)(p:gr):Prop where
 ok:ou CP H p
 ne:p.a≠p.gp
 row:∀q∈p.eA,q.2.zs.length=p.fu.length
 pos:0<p.fu.length
 c8:p.fu.length≤2000
 BP:p.eA.length≤2000
 nd:(p.eA.map (·.1)).Nodup
 Fk:p.sames.length≤10
def ou.same(h:ou CP H p)(s:ai H H'):ou CP H' p:=⟨s _ _ h.a,s _ _ h.sm,s _ _ h.gp,λq hq=>s _ _ (h.gl q hq),s _ _ h.sp⟩
def l8.same(h:l8 CP H p)(s:ai H H'):l8 CP H' p:=⟨h.ok.same s,h.ne,h.row,h.pos,h.c8,h.BP,h.nd,h.Fk⟩
def L7(l:List (Nat×su)):(l.map gH).map (·.1)=l.map (·.1):=by rw[cO];rfl
def UA{CP:Addr}{H H':Hp}{p p':gr}{sg bits same:Nat}{x:su}(g:l8 CP H p)(hx:bW p.eA sg=some x)(ok:ou CP H' p')(ea:p'.a=p.a)(eg:p'.gp=p.gp)(es:p'.sames=p.sames)(e1:p'.eA.map gH=d8 Äx sg (ď same)) (e2:p'.fu=jl x.zs p.fu bits same):l8 CP H' p':=by
 have hl:p'.fu.length=p.fu.length:=by rw[e2];unfold jl;rw[aA,gX]
 have hk:p'.eA.map (·.1)=p.eA.map (·.1):=by
  rw[←L7,e1,Ro,LZ,hx,L7];rfl
 refine⟨ok,by rw[ea,eg];exact g.ne,λq hq=>?_,by rw[hl];exact g.pos,by rw[hl];exact g.c8,?_,by rw[hk];exact g.nd,by rw[es];exact g.Fk⟩
 ·have h1:gH q∈d8 Äx sg (ď same):=by rw[←e1];exact cb.mpr ⟨q,hq,rfl⟩
  rcases xJ h1 with e|⟨h2,_⟩
  ·have:q.2.zs=iL x.zs bits same:=cz Prod.snd e;rw[this,hl,←g.row _ (xf hx)];unfold iL;simp
  ·obtain⟨q',k9,e⟩:=cb.mp h2;have:q.2.zs=q'.2.zs:=(cz Prod.snd e).symm;rw[this,hl];exact g.row q' k9
 ·have:=cz List.length hk;rw[aA,aA] at this;rw[this];exact g.BP
inductive L9(CP:Addr)(vs:aq)(H:Hp)(Q:VK)(E':XK):Prop
 |mk (p:gr) (sg bits:Nat) (r:Nat×gZ) (_:vs=[.ref p.a,.int (sg:Nat),.int (bits:Nat)]) (_:l8 CP H p) (_:ny p.sames p.st sg bits=some r) (_:∀H' p',l8 CP H' p'→p'.a=p.a→p'.gp=p.gp→p'.sames=p.sames→p'.st=r.2→uB p.a p.gp H H'→sA H p p'→Q (.int ((r.1:Nat):Int)) H')
section
variable{P:Pg}{w:Wd}{K:FR}{mg:MG}{base:Heap}{CK CL CS N CV CP:Addr}{C:Cs}
def BQ:bC ["plan","sign","bits","places","place","tried"] ["plan","sign","bits"] (a7 JW):=cu
def ahY{f:Addr}{fd:FD}(F:br K "flag_told" "flag_told" JW f fd)(TP:lu K CP ["sames","gaps","spares"])(tL:mg "len"=none)(tR:mg "range"=none)(dH:Å 1 "hang" ["plan","sign","bits","same"] (Uv CP)):Ê aE 2 f fd ["plan","sign","bits"] (L9 CP):=by
 refine F.ok BQ À;obtain⟨p,sg,bits,r,rfl,hp,fV,k⟩:=h;refine⟨_,aB (dq (PW.pt (pw_or (nU (aa6 (yK hr) á ë) (by with_unfolding_all rfl)) (pw_or1 (jr (bz dH (ae Ù (ae á (ae è (ae bh ag))))))))) (aD (aZ á)) d7)
  (aB (tW (i:=3) (own:=[("place",4)]) (tt:=BH K (bQ (gv λi j=>.int ŏ) (bQ (rI (λ_ j=>0≤j) λi j=>.int (i/2^j.toNat)) ŗ Ãi) Äv)) (te:=ay 4) rfl BQ.nd rfl rfl Ò (Hm Ò tR (ae ŷ ag)) É
   (λ_ _ _ _ _=>dv 4 BQ.nd) (λ_ _ _ _ _=>o7 (yr (eP Ay (eP Pf è ı) bh) Ãq)) (λ_ _ _ _ _=>pv 4))
  (aB (cq 5 BQ.nd bh)
  (aB (Za pZ (oW (jr (bz dH (ae Ù (ae á (ae è (ae (eP Hu bh (cA cQ õ Ãx Õ)) ag))))))) (aD (Y7 (i:=5) BQ.nd rfl (Or.inl rfl) bh Zq)))
  (aD (aZ (cA cQ ë (cA cQ õ Ãx Õ) Õ)))))),?_⟩
 have sv:=jK.k (k:=(Sum.inl ((sg:Nat):Int):Key)) hp.ok.gp;rw[yP] at sv;refine⟨_,rfl,_,rfl,bo hp.ok.a TP.1 (TP.2 _ Â) (LR p) ⟨p.gp,_,rfl,sv,_,rfl,?_⟩⟩;have eg:=LZ p.eA sg;cases e:bW p.eA sg with
 |none=>
  rw[e] at eg;have ef:ny p.sames p.st sg bits=some (sg,p.st):=by
   unfold ny gr.st;simp_all
  rw[ef] at fV;cases fV;exact a9 (λ_=>ky ⟨_,rfl,k H p hp rfl rfl rfl rfl uB.refl λa ha=>.inl ha⟩) (λhc=>absurd rfl hc)
 |some x=>
  rw[e] at eg;have gq:=xf e;have BR:=hp.row _ gq;have ef:ny p.sames p.st sg bits=if nu (Ϧ 0)=true then some (sg,qN p.st sg bits 0 x.zs) else uD p.sames p.st sg bits x.zs (oy p.sames.length bits):=by
   unfold ny gr.st;simp_all
  rw[ef] at fV;refine a9 (λhc=>absurd hc Â) (λ_=>?_);refine⟨_,rfl,_,rfl,_,rfl,p,sg,bits,0,x,rfl,hp.ok,hp.ne,e,BR,hp.pos,hp.c8,hp.BP,hp.nd,λh H1 s1=>⟨_,rfl,mZ ?_⟩,λh H1 p1 BS zC BU em1 zD Ma Mb Fl Mc=>⟨_,rfl,ky ?_⟩⟩
  ·rw[ah (by unfold nu;rw[h];decide)] at fV;have nM:=hp.same s1;have yA:=hp.Fk;refine⟨_,rfl,bo nM.ok.a TP.1 (TP.2 _ Â) (Ud p) ⟨p.sm,_,rfl,.inl (aa.of nM.ok.sm),(p.sames.length:Int),by simp,by omega,by omega,λD hD=>?_⟩⟩;rw[Cy];refine Dx (lo:=0) (n:=p.sames.length) (lx H1 D (xH bits)) (lx.zero hD) Âd ø
   ·rw[XI];refine⟨rfl,_,rfl,_,rfl,_,_,rfl,rfl,ON i,_,_,rfl,rfl,_,rfl,a9 Í Í⟩
    ·exact⟨_,rfl,f.yes hD Ä ĸ hc⟩
    ·exact f.no ĸ hc
   ·have vQ:H' D=some (.lst (iv (nv (oy p.sames.length bits)))):=f.2;have s2:=s1.trans f.1;have bJ:∀b∈oy p.sames.length bits,b<p.sames.length:=λb hb=>by
     unfold oy at hb;simp_all
    have hDa:D≠p.a:=λz=>by rw[z,nM.ok.a] at hD;cases hD
    have hDg:D≠p.gp:=λz=>by rw[z,nM.ok.gp] at hD;cases hD
    generalize oy p.sames.length bits=pl at vQ bJ fV;refine⟨λm σ H2=>∃j:Nat,σ=[some Âq,some (.int (sg:Nat)),some (.int (bits:Nat)),some Áe,none,some (.int (j:Nat))]∧m=pl.length-j∧ai H H2∧H2 D=some (.lst (iv (nv pl)))∧uD p.sames p.st sg bits x.zs (pl.drop j)=some r,
     ⟨_,0,rfl,rfl,s2,vQ,fV⟩,?_⟩
    rintro m σ H2 ⟨j,rfl,rfl,s3,cE,hj⟩;have u9:j<pl.length:=by
     cases Nat.lt_or_ge j pl.length with
     |inl h=>exact h
     |inr h=>rw[XJ h] at hj;cases hj
    obtain⟨b,hb⟩:∃b,pl[j]? =some b:=⟨_,dm u9⟩;have jS:=bJ b Ço;rw[zw hb] at hj;have rh:=hp.same s3;have Fm:(iv (nv pl))[j]? =some (.int ((b:Nat):Int)):=by
     simp_all
    refine⟨_,rfl,_,rfl,_,rfl,_,rfl,_,rfl,D,_,_,.int ((b:Nat):Int),rfl,rfl,aa.of cE,fZ Fm,_,_,rfl,rfl,⟨ON b,by omega,by decide⟩,p,sg,bits,2^b,x,?_,rh.ok,hp.ne,e,BR,hp.pos,hp.c8,hp.BP,hp.nd,λh H3 s4=>⟨_,rfl,ky ?_⟩,λh H3 p1 BS zC BU em1 zD Ma Mb Fl Mc=>⟨_,rfl,mZ ?_⟩⟩
    ·simp
    ·unfold uD at hj;rw[ah (by unfold nu;rw[show p.st.2=p.fu from rfl,h];decide)] at hj;refine⟨_,λσ' H' q=>⟨_,?_,q⟩,_,rfl,_,_,rfl,rfl,j+1,rfl,rfl,s3.trans s4,s4 _ _ cE,hj⟩;omega
    ·unfold uD at hj;rw[af (by unfold nu;rw[show p.st.2=p.fu from rfl,h];rfl)] at hj;cases hj;have qO:=Fl _ _ cE hDa hDg;refine⟨_,rfl,bo (by rw[←zC];exact BS.a) TP.1 (TP.2 _ Â) (Ud p1) ⟨_,rfl,_,rfl,D,_,_,.int ((b:Nat):Int),rfl,rfl,aa.of qO,fZ Fm,p1.sm,_,_,.int ((p.sames.getD b 0:Nat):Int),rfl,rfl,aa.of BS.sm,?_,?_⟩⟩
     ·rw[zD];exact fZ (E3 jS)
     ·refine k H3 p1 (UA hp e BS zC BU zD Ma Mb) zC BU zD ?_ (λb o e1 h1 h2=>Fl b o (s3 _ _ e1) h1 h2) (λa ha=>(Mc a ha).imp id λz=>s3.free z);unfold gr.st qN;simp_all
  ·rw[af (by unfold nu;rw[h];rfl)] at fV;cases fV;refine⟨_,rfl,k H1 p1 (UA hp e BS zC BU zD Ma Mb) zC BU zD ?_ Fl Mc⟩;unfold gr.st qN;simp_all
end
def nB(sames:LN):gZ→cf→Option (LN×gZ)
 |st,[]=>some ([],st)
 |st,p::r=>match ny sames st p.1 p.2 with
  |none=>none
  |some x=>match nB sames x.2 r with
   |none=>none
   |some y=>some (x.1::y.1,y.2)
def sA.refl:sA H p p:=λ_ h=>.inl h
def Apart(D:Addr)(p:gr):Prop:=D≠p.a∧D≠p.gp∧D∉p.own
def ah2(h:ou CP H p)(ha:a∈p.own):∃l,H a=some (.lst l):=by
 unfold gr.own at ha;rcases bf.mp ha with rfl|ha
 ·exact⟨_,h.sm⟩
 ·rcases bf.mp ha with rfl|ha
  ·exact⟨_,h.sp⟩
  ·obtain⟨q,hq,rfl⟩:=cb.mp ha;exact⟨_,h.gl q hq⟩
def apart_new(h:ou CP H p)(hD:H D=none):Apart D p:=by
 refine⟨λe=>?_,λe=>?_,λe=>?_⟩
 ·rw[e,h.a] at hD;cases hD
 ·rw[e,h.gp] at hD;cases hD
 ·obtain⟨l,hl⟩:=ah2 h e;simp_all
def Md(h:Apart D p)(ea:p'.a=p.a)(eg:p'.gp=p.gp)(ow:sA H p p')(hD:H D≠none):Apart D p':=⟨by rw[ea];exact h.1,by rw[eg];exact h.2.1,λe=>(ow D e).elim h.2.2 hD⟩
def ou.upd(h:ou CP H p)(ap:Apart D p):ou CP (upd H D o) p:=by
 have n:∀a∈p.own,a≠D:=λa ha e=>ap.2.2 Ç;refine⟨?_,?_,?_,λq hq=>?_,?_⟩
 ·rw[au (dJ ap.1)];exact h.a
 ·rw[au (n _ (by unfold gr.own;simp))];exact h.sm
 ·rw[au (dJ ap.2.1)];exact h.gp
 ·rw[au (n _ (by unfold gr.own;exact aN _ (aN _ (cb.mpr ⟨q,hq,rfl⟩))))];exact h.gl q hq
 ·rw[au (n _ (by unfold gr.own;simp))];exact h.sp
def l8.upd(h:l8 CP H p)(ap:Apart D p):l8 CP (upd H D o) p:=⟨h.ok.upd ap,h.ne,h.row,h.pos,h.c8,h.BP,h.nd,h.Fk⟩
inductive Me(CP:Addr)(vs:aq)(H:Hp)(Q:VK)(E':XK):Prop
 |mk (p:gr) (x z:cK) (r:LN×gZ) (_:vs=[.ref p.a,.ref x.a,.ref z.a]) (_:l8 CP H p) (_:aU H (lsN x)) (_:aU H (lsN z)) (_:x.ns.length=z.ns.length) (_:x.ns.length≤1000) (_:nB p.sames p.st (x.ns.zip z.ns)=some r) (_:∀H' p' q,l8 CP H' p'→p'.a=p.a→p'.gp=p.gp→p'.sames=p.sames→p'.st=r.2→uB p.a p.gp H H'→sA H p p'→H q=none→H' q=some (.lst (iv (nv r.1)))→Apart q p'→Q Èh H')
section
variable{P:Pg}{w:Wd}{K:FR}{mg:MG}{base:Heap}{CK CL CS N CV CP:Addr}{C:Cs}
def Mf:bC ["plan","row","stands","place","sign"] ["plan","row","stands"] (a7 JV):=cu
inductive HtI(CP D:Addr)(p:gr)(H:Hp)(x z:cK)(r:LN×gZ)(i:Nat)(H2:Hp):Prop
 |mk (p2:gr) (fs:LN) (r2:LN×gZ) (_:uB p.a p.gp H H2) (_:l8 CP H2 p2) (_:p2.a=p.a) (_:p2.gp=p.gp) (_:p2.sames=p.sames) (_:sA H p p2) (_:Apart D p2) (_:H2 D=some (.lst (iv (nv fs)))) (_:fs.length=i) (_:nB p.sames p2.st ((x.ns.zip z.ns).drop i)=some r2) (_:fs++r2.1=r.1) (_:r2.2=r.2)
def ah4(F:br K "hoist_told" "hoist_told" JV f fd)(tE:mg "enumerate"=none)(dF:Å 2 "flag_told" ["plan","sign","bits"] (L9 CP)):Ê aE 3 f fd ["plan","row","stands"] (Me CP):=by
 refine F.ok Mf À;obtain⟨p,x,z,r,rfl,hp,hx,hz,hl,je,hh,k⟩:=h;have jO:=BA hx;have sr:=BA hz;refine⟨_,aD (aZ (eB (own:=[("place",3),("sign",4)]) (g:=g2 K 3 4) (te:=gY (L9 CP) [] E0 (bg ώ (bg Ãi (bg (bQ ύ ŗ Ŗ) du)))) rfl Mf.nd
   (ku Ò tE Œ) É
   (λ_ _ _ _ _=>iB 3 4 Mf.nd) Ó
   (λ_ _ _ _ _=>bz dF (ae Ù (ae ı (ae (cA cQ è õ Õ) ag)))))),?_⟩
 have ah5:x.a≠p.a:=λe=>by rw[e,hp.ok.a] at jO;cases jO
 have ah6:x.a≠p.gp:=λe=>by rw[e,hp.ok.gp] at jO;cases jO
 have ah7:z.a≠p.a:=λe=>by rw[e,hp.ok.a] at sr;cases sr
 have ah8:z.a≠p.gp:=λe=>by rw[e,hp.ok.gp] at sr;cases sr
 refine⟨_,rfl,x.a,_,rfl,aa.of jO,λD hD=>?_⟩;have Fn:=eN jO hD;have hzD:=eN sr hD;have BV:=apart_new hp.ok hD;refine lj (K:=K) (a:=x.a) (xs:=iv (nv x.ns)) (HtI CP D p H x z r)
  ⟨p,[],r,ai.x (aK hD),hp.upd BV,rfl,rfl,rfl,sA.refl,BV,ao,rfl,hh,rfl,rfl⟩ (λi H2 _ h=>(by obtain⟨p2,fs,r2,sx⟩:=h;exact aa.of (sx _ _ jO ah5 ah6))) ?_ ?_
 ·rintro i v Tt H2 hi ⟨p2,fs,r2,sx,g2,ea,eg,es,ow,ap,cE,fV,pU,vR,Fo⟩ hT;obtain⟨sg,jR,rfl⟩:=nh hi;have dY:=(bH.mp jR).1;obtain⟨bt,T9⟩:∃bt,z.ns[i]? =some bt:=⟨_,dm Ä⟩;have gO:(x.ns.zip z.ns)[i]? =some (sg,bt):=by
   simp_all
  rw[zw gO] at pU;have s1:ai H2 (upd H2 Tt (.tup [.int (i:Nat),.int (sg:Nat)])):=aK hT;have Fm:(iv (nv z.ns))[i]? =some (.int ((bt:Nat):Int)):=by
   simp_all
  unfold nB at pU;cases e1:ny p.sames p2.st sg bt with
  |none=>simp_all
  |some y1=>
   rw[e1] at pU;dsimp only at pU;cases e2:nB p.sames y1.2 ((x.ns.zip z.ns).drop (i+1)) with
   |none=>simp_all
   |some y2=>
    rw[e2] at pU;have pU:=aO pU;subst pU;refine Ü;generalize hHx:upd H2 Tt (.tup [.int (i:Nat),.int (sg:Nat)])=Hx at s1;have g3:=g2.same s1;refine⟨_,rfl,_,rfl,_,rfl,_,rfl,z.a,_,_,.int ((bt:Nat):Int),rfl,rfl,aa.of (s1 _ _ (sx _ _ sr ah7 ah8)),fZ Fm,p2,sg,bt,y1,by simp_all,g3,by simp_all,λH3 p3 g4 zE zF Mg UB zG zH=>?_⟩;have BW:=s1 _ _ cE;have qO:=zG _ _ BW ap.1 ap.2.1;have BX:=Md ap zE zF zH Ç;refine⟨_,qO,by rw[eX,jB];exact gQ Ä,p3,fs++[y1.1],y2,λb o e h1 h2=>?_,g4.upd BX,zE.trans ea,zF.trans eg,Mg.trans es,λa ha=>?_,BX,?_,by simp_all,by simp_all,by simp_all,Fo⟩
    ·rw[au (eN e hD)];exact zG _ _ (s1 _ _ (sx b o e h1 h2)) Ç Ç
    ·rcases zH a ha with h|h
     ·exact ow a h
     ·refine .inr ?_;cases e:H a with
      |none=>rfl
      |some o=>
       exfalso;have hn:=s1.free h;by_cases h1:a=p.a
       ·rw[h1,←ea,g2.ok.a] at hn;cases hn
       ·by_cases h2:a=p.gp
        ·rw[h2,←eg,g2.ok.gp] at hn;cases hn
        ·rw[sx a o e h1 h2] at hn;cases hn
    ·rw[ao];simp
 ·rintro H2 ⟨p2,fs,r2,sx,g2,ea,eg,es,ow,ap,cE,fV,pU,vR,Fo⟩;rw[eX,jB] at fV pU;rw[XJ Ç] at pU;cases pU;grind
end
def aX(ms:aF):LN:=(List.range ms.length).filter λi=>decide ((ms.getD i fg).role=1)
def fw(ms:aF)(rows:bq):bq:=rows.map (pP ms ĥ)
def BY(ms:aF)(rows:bq):List (Nat×LI):=nt (2^(aX ms).length) (jk ms rows.flatten) (iK ö)
def oA(ms:aF)(rows:bq):gZ:=(BY ms rows,qM (2^(aX ms).length) ((List.range (2^(aX ms).length)).map (qL ms ĥ)) (BY ms rows))
def l9(sames:LN):gZ→List cf→Option (bq×gZ)
 |st,[]=>some ([],st)
 |st,p::r=>match nB sames st p with
  |none=>none
  |some x=>match l9 sames x.2 r with
   |none=>none
   |some y=>some (x.1::y.1,y.2)
def ma(rows lD:bq):List cf:=(rows.zip lD).map λp=>p.1.zip p.2
def nD(ms:aF)(rows:bq):Option (Option bq):=
 if jk ms rows.flatten=[] then some (some rows) else if (oA ms rows).2.any (λz=>decide (z<0))=true then some none else (l9 ĥ Æc Ãg).map λx=>some x.1
structure vS(ms:aF):Prop where
 c8:(aX ms).length≤10
 pos:∀s∈aX ms,1≤kI ms s
inductive Fp(CK:Addr)(vs:aq)(H:Hp)(Q:VK)(E':XK):Prop
 |mk (pk:Addr) (ks:List az) (y:b9) (r:Option bq) (_:vs=[.ref pk,.ref y.a]) (_:ů ks) (_:vS Ë) (_:LO H y ks.length) (_:(y.m.flatten).length≤1000) (_:nD Ë y.m=some r) (_:(∀hs,r=some hs→∀H' z,ai H H'→b9.m z=hs→aU H' (eQ z)→iY H (eQ z)→Q Äj H')) (_:(r=none→∀H',ai H H'→Q .aJ H'))
def ah9(l:cf)(s:Nat):(bW (iK l) s).isSome=(l.map (·.1)).contains s:=by
 refine snoc_ind (P:=λl=>(bW (iK l) s).isSome=(l.map (·.1)).contains s) rfl Ár l;rw[BL,bV];unfold oneAt;rw[DX];by_cases h:s=x.1
 ·rw[af h];simp[h]
 ·rw[ah h,ih];simp[h]
def aia(l:cf):((iK l).map (·.1)).Nodup:=by
 refine snoc_ind (P:=λl=>((iK l).map (·.1)).Nodup) Ae Ão l;rw[BL];exact DY ih
theorem UC:∀(rows lD:bq),rows.length=lD.length→(∀(i:Nat)(a b:LN),rows[i]? =some a→lD[i]? =some b→a.length=b.length)→(eT rows lD).map (·.1)=rows.flatten:=by
 intro rows;induction rows with
 |nil=>
  intro lD h1 _;cases lD with
  |nil=>rfl
  |cons _ _=>cases h1
 |cons a rows ih=>
  intro lD h1 h2;cases lD with
  |nil=>cases h1
  |cons b lD=>
   have ih:=ih lD (by simpa using h1) λi x y e1 e2=>h2 (i+1) x y e1 e2;unfold eT at ih⊢;rw[CI,CZ,bV,ih,OO];congr 1;have:=h2 0 a b rfl rfl;exact List.map_fst_zip (by show a.length≤b.length;omega)
def UD(ms:aF)(rows:bq):rows.length=(fw ms rows).length:=by unfold fw;rw[aA]
def Mh(ms:aF)(rows:bq):∀(i:Nat)(a b:LN),rows[i]? =some a→ń[i]? =some b→a.length=b.length:=λi a b h1 h2=>by
 unfold fw at h2;rw[bX,h1] at h2;cases h2;unfold pP;simp
def aib(G:Nat)(lacks:List (Nat×Int))(Fd:List (Nat×LN)):(nt G lacks Fd).map (·.1)=lacks.map (·.1):=by
 unfold nt;simp
def Mi(ms:aF)(flat:LN):((jk ms flat).map (·.1)).Nodup:=aoY (E7 ms (gn flat)) (E6 flat)
def aic(ms:aF)(flat:LN):(jk ms flat).length≤flat.length:=by
 have h1:=(E7 ms (gn flat)).length_le;have h2:=LM flat;rw[aA,aA] at h1;unfold jk;omega
def UE(h:p∈jk ms flat):p.1∈flat:=by
 have h1:p.1∈(jk ms flat).map (·.1):=cb.mpr ⟨p,h,rfl⟩;have h2:=(E7 ms (gn flat)).subset h1;obtain⟨q,hq,e⟩:=cb.mp h2;rw[←e];exact TR hq
def aid(h:vS ms):BF ms ĥ:=⟨by have:=h.c8;omega,λs hs=>by
 unfold aX at hs;simpa using (j3.mp hs).1,h.pos⟩
section
variable{P:Pg}{w:Wd}{K:FR}{mg:MG}{base:Heap}{CK CL CS N CV CP:Addr}{C:Cs}
def oB:bC ["kinds","rows","lacks","row","sames","number","kind","stands","plan"] ["kinds","rows"] (a7 JN):=cu
inductive DsI(CP D3:Addr)(p:gr)(H6:Hp)(y z:b9)(r0:bq×gZ)(i:Nat)(H7:Hp):Prop
 |mk (p2:gr) (zs:List cK) (r2:bq×gZ) (_:uB p.a p.gp H6 H7) (_:l8 CP H7 p2) (_:p2.a=p.a) (_:p2.gp=p.gp) (_:p2.sames=p.sames) (_:sA H6 p p2) (_:Apart D3 p2) (_:H7 D3=some (.lst (zs.map λx=>V.ref x.a))) (_:zs.length=i) (_:(∀x∈zs,H7 x.a=some Ż∧Apart x.a p2∧H6 x.a=none∧x.a≠D3)) (_:l9 p.sames p2.st ((ma y.m z.m).drop i)=some r2) (_:zs.map cK.ns++r2.1=r0.1)
def aif(F:br K "display_told" "display_told" JN f fd)(T:rW K CK)(TP:lu K CP ["sames","gaps","spares"])(LU:mg "list"=none)(tE:mg "enumerate"=none)(tN:mg "min"=none)(cS:Cn mg "SAME" Ŝ)(dL:Å 1 "copies_lacking" ["kinds","rows"] (TU CK)) (dA:Å 2 "sames_along" ["kinds","sames","row"] (LF CK)) (dP:Å 1 "places_of" ["rows","stands"] T5)(dO:Å 3 "plan_of" ["kinds","sames","lacks","places"] (Ui CK CP)) (dH:Å 3 "hoist_told" ["plan","row","stands"] (Me CP)):Ê aE 4 f fd ["kinds","rows"] (Fp CK):=by
 refine F.ok oB À;obtain⟨pk,ks,y,r,rfl,hk,Fq,hy,fV,oC,k1,k2⟩:=h;refine⟨_,aB (cq 2 oB.nd (bz dL (ae Ù Œ)))
  (aB (dq (cI (acX hr.units) è Dz (bT _)) (aD (aZ (eB (own:=[("row",3)]) (te:=ql (λxs H Q=>∃p ys,xs=[.ref p]∧(ß p ys∨bu K H p ys)∧∀l,H l=none→Q Är (Ϛ Âb)) Ân) rfl oB.nd Æi É
   (λ_ _ _ _ _=>dv 3 oB.nd) Ó (λ_ _ _ _ _=>wK Z6 Ò LU Uj Ĳ)))) d7)
  (aB (cq 4 oB.nd (eB (own:=[("number",5),("kind",6)]) (g:=g2 K 5 6) (tt:=mQ (bQ nW (fY K (ay 6) "role") Äv)) (te:=ay 5) rfl oB.nd
   (Âi) É
   (λ_ _ _ _ _=>iB 5 6 oB.nd)
   (λ_ _ _ _ _=>o7 (cI hJ (bj Ãe rfl) Æo (bT _))) (λ_ _ _ _ _=>pv 5)))
  (aB (cq 7 oB.nd (eB (own:=[("row",3)]) (te:=gY (LF CK) [] E0 (bg ώ (bg Ãi Ân))) rfl oB.nd Æi É
   (λ_ _ _ _ _=>dv 3 oB.nd) Ó (λ_ _ _ _ _=>bz dA (ae Ù (ae ı Ĳ)))))
  (aB (cq 8 oB.nd (bz dO (ae Ù (ae ı (ae è (ae (bz dP (ae á (ae Åf ag))) ag))))))
  (aB (dq (cI wH (c6 (P5 rfl) Ò tN Uw (ae (bj (pv 8) rfl) ag)) bh (bT _)) Ź d7)
  (aD (aZ (eB (own:=[("number",5),("row",3)]) (g:=g2 K 5 3) (te:=gY (Me CP) [] E0 (bg (ay 8) (bg Ŗ (bg (bQ ύ Èf (ay 5)) du)))) rfl oB.nd
   (ku Ò tE Œ) É
   (λ_ _ _ _ _=>iB 5 3 oB.nd) Ó
   (λ_ _ _ _ _=>bz dH (ae (pv 8) (ae õ (ae (cA cQ Åf Ãx Õ) ag)))))))))))),?_⟩
 have pQ:=jC hy.l;have UF:=hy.c8;refine⟨_,rfl,_,rfl,pk,ks,y,rfl,hk,hy,λH1 pl nL=>?_⟩;have s1:=nL.1;have df:=nL.2.2;have aih:=oC;unfold nD at oC;have zy:=Mi Ë y.m.flatten;have Uk:=aic Ë y.m.flatten;have pL:∀p∈jk Ë y.m.flatten,p.1∈y.m.flatten:=λp hp=>UE hp;have hG:BY Ë y.m=nt (2^(aX Ë).length) Äb (iK (eT y.m (fw Ë y.m))):=rfl;generalize jk Ë y.m.flatten=lacks at df oC zy Uk pL hG;refine⟨_,rfl,λe he=>⟨pl,e,_,rfl,rfl,(Çq) _ _ df,ao,_,rfl,a9 Í Í⟩⟩
 ·have hc:lacks=[]:=by
   cases lacks with
   |nil=>rfl
   |cons a b=>exact absurd hc (by unfold bx;simp)
  rw[af hc] at oC;have s2:ai H (upd H1 e Àp):=s1.trans Çq;generalize upd H1 e Àp=H2 at s2;refine⟨_,rfl,y.a,rfl,⟨_,aa.of (s2 _ _ pQ)⟩,λD hD=>gy (K:=K) (a:=y.a) (xs:=y.ls.map λx=>V.ref x.a) (jj H2 D λi=>y.m.getD i []) ć (λi H' _ f=>aa.of (f.same _ _ (s2 _ _ pQ))) (λi v H' hi f=>?_) ø⟩
  ·obtain⟨x,hx,rfl⟩:=iu hi;have gq:=bY hx;have dY:=(bH.mp hx).1;exact⟨rfl,eJ ⟨_,rfl,x.a,_,rfl,.inl (aa.of (f.same _ _ (s2 _ _ (l6 hy.l gq)))),λl hl=>(jj.step hD Ä f (aK hl) hl (by rw[ao,BD hx]))⟩⟩
  ·obtain⟨z,rfl,s3,em,l1,fr⟩:=jj.end hD f;refine k1 _ (aO oC).symm H' z ī ?_ l1 (iY.back fr s2);rw[em,aA];have:=vN (l:=y.m) (g:=λx=>x) (d:=[]);rw[iw,List.map_id'] at this;exact this
 ·have hc:¬lacks=[]:=λz=>hc (by rw[z];rfl);rw[ah hc] at oC;have s2:ai H (upd H1 e Àp):=s1.trans Çq;have UG:=(aK (o:=.dK []) he) _ _ df;generalize upd H1 e Àp=H2 at s2 UG;have vH:=hk.same s2;have hkf:=hk.c8;refine⟨_,rfl,pk,_,rfl,aa.of vH.a,λD hD=>lj (K:=K) (a:=pk) (xs:=ks.map λk=>V.ref k.a) (lx H2 D λi=>decide (((ks.map az.m).getD i fg).role=1)) (lx.zero hD) (λi H' _ f=>aa.of (f.1 _ _ vH.a)) Ág Åv⟩
  ·obtain⟨b,hb,rfl⟩:=iu hi;have dY:=(bH.mp hb).1;have s3:ai H' (Ϡ (.tup [.int (i:Nat),.ref b.a])):=aK hT;refine ä;refine⟨_,rfl,bo (ji ((m8 vH.l Ço).same (f.1.trans s3))) T.c T.vC (vB b) ĝ⟩;rw[show V.int 1=V.int ((1:Nat):Int) from rfl,lK];refine a9 Í Í
   ·exact⟨_,rfl,f.yes hD Ä s3 (by rw[getD_map hb];exact hc)⟩
   ·exact f.no s3 (by rw[getD_map hb];exact hc)
  ·have gj:H3 D=some (.lst (iv (nv (aX Ë)))):=by
    have:=f.2;rw[aA] at this;unfold aX;rw[aA];exact this
   have s3:=s2.trans f.1;have aij:=f.1 _ _ UG;have hk3:=hk.same s3;have UH:=aid Fq;refine⟨_,rfl,y.a,rfl,⟨_,aa.of (s3 _ _ pQ)⟩,λD2 cE=>gy (K:=K) (a:=y.a) (xs:=y.ls.map λx=>V.ref x.a) (jj H3 D2 λi=>pP Ë (aX Ë) Çb) Ãh (λi H' _ f=>aa.of (f.same _ _ (s3 _ _ pQ))) (λi v H' hi f2=>?_) (λH4 f2=>?_)⟩
   ·obtain⟨x,hx,rfl⟩:=iu hi;have gq:=bY hx;have dY:=(bH.mp hx).1;exact⟨rfl,eJ ⟨_,rfl,_,rfl,_,rfl,pk,D,x.a,ks,aX Ë,x.ns,rfl,hk3.same f2.same,f2.same _ _ gj,UH,f2.same _ _ (s3 _ _ (l6 hy.l gq)),hy.short x gq,λH5 q n5=>(jj.step cE Ä f2 n5.1 n5.2.1 (by rw[BD hx];exact n5.2.2))⟩⟩
   ·obtain⟨z,rfl,s4,em,l4,fr4⟩:=jj.end cE f2;have md:z.m=fw Ë y.m:=by
     rw[em,aA];have:=vN (l:=y.m) (g:=pP Ë (aX Ë)) (d:=[]);rw[iw] at this;exact this
    have qt:y.ls.length=z.ls.length:=by rw[←iw,←iw,md];exact UD _ _
    have UI:∀(i:Nat)(a b:cK),y.ls[i]? =some a→z.ls[i]? =some b→a.ns.length=b.ns.length:=λi a b h1 h2=>Mh Ë y.m i a.ns b.ns (by unfold b9.m;rw[bX,h1];rfl) (by rw[←md];unfold b9.m;rw[bX,h2];rfl);have Lu:=UC y.m z.m (by rw[iw,iw];exact qt) (by rw[md];exact Mh _ _);have apY:(eT y.m z.m).length≤1000:=by
     have:=cz List.length Lu;rw[aA] at this;omega
    have s5:=s3.trans s4;have ail:=s4 _ _ gj;have UJ:=s4 _ _ aij;refine⟨_,rfl,_,rfl,_,rfl,_,rfl,_,rfl,y,z,rfl,aU.same hy.l s5,l4,qt,UI,by omega,λH5 pp t s6 xI tb et=>?_⟩;have s7:=s5.trans s6;have LW:∀p∈t,p.2.ns.length≤1000:=λp hp=>by
     obtain⟨i,hi,ei⟩:=qY hp;have h1:cont p∈iK Æj:=by rw[←et];exact cb.mpr ⟨p,hp,rfl⟩
     have h2:=yQ (aia Æj) (s:=p.1) (v:=p.2.ns) h1;have:=T3 _ h2;omega
    have ir:∀p∈lacks,(bW t p.1).isSome=true:=λp hp=>by
     have h1:=zu t p.1;rw[et] at h1;have h2:=ah9 Æj p.1;rw[h1,Lu,CM] at h2;rw[h2];simpa using pL p hp
    have aim:pp≠pl:=λe=>by rw[e,UJ] at xI;cases xI
    refine⟨pk,D,pl,pp,ks,aX Ë,lacks,t,rfl,hk.same s7,s6 _ _ ail,UH,Fq.c8,s6 _ _ UJ,zy,by omega,tb.d,tb.l,LW,ir,aim,λH6 p s8 ok y4 Fh aQ apZ jT Fs jd=>?_⟩;have s9:=s7.trans s8;have UK:p.st=oA Ë y.m:=by
     unfold gr.st oA;rw[jd,Fs,hG,et,md]
    have ain:p.fu.length=2^(aX Ë).length:=by
     rw[jd];exact Ug _ _ _ (by rw[aA,gX])
    have h2k:2^(aX Ë).length≤1024:=GU Ø Fq.c8;have h2p:0<2^(aX Ë).length:=Nat.pow_pos Ø;have ni:p.eA.length=lacks.length:=by
     have:=cz List.length Fs;unfold nt at this;rw[aA,aA] at this;exact this
    have zZ:l8 CP H6 p:=⟨ok,aQ,λq hq=>by rw[ain];exact Uh (p:=gH q) (by rw[←Fs];exact cb.mpr ⟨q,hq,rfl⟩),by omega,by omega,by omega,by rw[←L7,Fs,aib];exact zy,by rw[jT];exact Fq.c8⟩;have Rp:p.fu=(oA Ë y.m).2:=cz Prod.snd UK;rw[←Rp] at oC;refine⟨_,rfl,bo ok.a TP.1 (TP.2 _ Â) (Ue p) ⟨p.sp,p.fu,rfl,aa.of ok.sp,by omega,λm hm j0=>⟨_,_,rfl,rfl,_,rfl,a9 Ãp Ãp⟩⟩⟩
    ·simp at iH;rw[af (uP.mpr ⟨m,hm,eF iH⟩)] at oC;exact k2 (aO oC).symm H6 s9
    ·simp at iH;rw[ah (λe=>by
      obtain⟨z',C5,h2⟩:=uP.mp e;have:=qZ h2;have:=j0 z' C5;omega)] at oC
     rw[←UK,←jT,←md] at oC;obtain⟨r0,sC,er⟩:=x9.mp oC;have k3:=k1 r0.1 er.symm;clear oC aih k1 k2;have Ft:=s9 _ _ pQ;have UL:=l4.same (s6.trans s8);have aio:=jC UL;have aip:=aU.same hy.l s9;have Fu:∀b o,H6 b=some Æy→b≠p.a∧b≠p.gp:=λb o e=>⟨λz=>(by rw[z,ok.a] at e;cases e),λz=>(by rw[z,ok.gp] at e;cases e)⟩;refine⟨_,rfl,y.a,_,rfl,aa.of Ft,λD3 qO=>?_⟩;have BV:=apart_new ok qO;refine lj (K:=K) (a:=y.a) (xs:=y.ls.map λx=>V.ref x.a) (DsI CP D3 p H6 y z r0)
      ⟨p,[],r0,ai.x (aK qO),zZ.upd BV,rfl,rfl,rfl,sA.refl,BV,ao,rfl,by simp,sC,rfl⟩ (λi H7 _ h=>(by obtain⟨p2,zs,r2,sx⟩:=h;exact aa.of (sx _ _ Ft (Fu _ _ Ft).1 (Fu _ _ Ft).2))) ?_ ?_
     ·rintro i v Tt H7 hi ⟨p2,zs,r2,sx,g2,ea,eg,es,ow,ap,Mj,Ml,xM,hh,vR⟩ hT;obtain⟨x,hx,rfl⟩:=iu hi;have dY:=(bH.mp hx).1;obtain⟨u,hu⟩:∃u,z.ls[i]? =some u:=⟨_,dm Ä⟩;have gq:=bY hx;have hum:=bY hu;have SK:=l6 aip gq;have hu6:=l6 UL hum;have gO:(ma y.m z.m)[i]? =some (x.ns.zip u.ns):=by
       unfold ma b9.m;rw[bX,(GV (i:=i) (l₁:=y.ls.map cK.ns) (l₂:=z.ls.map cK.ns) (z:=(x.ns,u.ns))).mpr ⟨by rw[bX,hx];rfl,by rw[bX,hu];rfl⟩];rfl
      rw[zw gO] at hh;unfold l9 at hh;cases e1:nB p.sames p2.st (x.ns.zip u.ns) with
      |none=>rw[e1] at hh;cases hh
      |some y1=>
       rw[e1] at hh;dsimp only at hh;cases e2:l9 p.sames y1.2 ((ma y.m z.m).drop (i+1)) with
       |none=>rw[e2] at hh;cases hh
       |some y2=>
        rw[e2] at hh;have hh:=aO hh;subst hh;have t1:ai H7 (upd H7 Tt (.tup [.int (i:Nat),.ref x.a])):=aK hT;refine Ü;generalize hHx:upd H7 Tt (.tup [.int (i:Nat),.ref x.a])=Hx at t1;have kept:∀b o,H6 b=some Æy→Hx b=some Æy:=λb o e=>t1 _ _ (sx _ _ e (Fu _ _ e).1 (Fu _ _ e).2);refine⟨_,rfl,_,rfl,_,rfl,_,rfl,z.a,_,_,.ref u.a,rfl,rfl,aa.of (kept _ _ aio),fZ (by rw[bX,hu];rfl),p2,x,u,y1,by rw[ea];rfl,g2.same t1,λq hq=>?_,λq hq=>?_,UI i x u hx hu,hy.short x gq,by rw[es];exact e1,λH8 p3 q g3 zE zF Mg UB zG zH Mm ais ait=>?_⟩
        ·simp only[lsN,bf,my,mz] at hq;subst hq;exact kept _ _ SK
        ·simp only[lsN,bf,my,mz] at hq;subst hq;exact kept _ _ hu6
        ·have BW:=t1 _ _ Mj;have Fv:=zG _ _ BW ap.1 ap.2.1;have BX:=Md ap zE zF zH (by rw[BW];exact λz=>by cases z);have UM:q≠D3:=λe=>by rw[e,BW] at Mm;cases Mm
         have UN:∀a,Hx a=none→H6 a=none:=λa h=>by
          cases e:H6 a with
          |none=>rfl
          |some o=>
           exfalso;have hn:=t1.free h;by_cases h1:a=p.a
           ·rw[h1,←ea,g2.ok.a] at hn;cases hn
           ·by_cases h2:a=p.gp
            ·rw[h2,←eg,g2.ok.gp] at hn;cases hn
            ·rw[sx a o e h1 h2] at hn;cases hn
         refine⟨_,Fv,by rw[aA];exact gQ Ä,p3,zs++[⟨q,y1.1⟩],y2,λb o e h1 h2=>?_,g3.upd BX,zE.trans ea,zF.trans eg,Mg.trans es,λa ha=>?_,BX,?_,by rw[mw,Ml];rfl,λw hw=>?_,by rw[UB];exact e2,?_⟩
         ·rw[au (eN e qO)];exact zG _ _ (t1 _ _ (sx b o e h1 h2)) (by rw[ea];exact h1) (by rw[eg];exact h2)
         ·exact(zH a ha).elim (ow a) λh=>.inr (UN a h)
         ·rw[ao,bV];rfl
         ·rcases gK.mp hw with hw|hw
          ·obtain⟨w1,w2,w3,w5⟩:=xM w hw;have w4:=t1 _ _ w1;refine⟨?_,Md w2 zE zF zH (by rw[w4];exact λz=>by cases z),w3,w5⟩;rw[au w5];exact zG _ _ w4 w2.1 w2.2.1
          ·have:w=⟨q,y1.1⟩:=by simpa using hw
           subst this;refine⟨?_,ait,UN _ Mm,UM⟩;rw[au UM];exact ais
         ·rw[bV,rg];exact vR
     ·rintro H7 ⟨p2,zs,r2,sx,g2,ea,eg,es,ow,ap,Mj,Ml,xM,hh,vR⟩;rw[aA] at Ml hh;rw[XJ (by unfold ma;rw[aA,List.length_zip,iw];omega)] at hh;cases hh;rw[kY] at vR;have sF:=λb o e=>sx b o (s9 _ _ e) (λz=>(by rw[z,s7.free y4] at e;cases e)) (λz=>(by rw[z,s7.free Fh] at e;cases e));refine k3 H7 ⟨D3,zs⟩ sF vR (Tv Mj λx hx q hq=>?_) (BB (s9.free qO) λx hx q hq=>?_)
      ·simp only[lsN,bf,my,mz] at hq;subst hq;exact(xM x hx).1
      ·simp only[lsN,bf,my,mz] at hq;subst hq;exact s9.free (xM x hx).2.2.1
end
def sD(part:LI):Bool:=!(decide (part.length>64)||(JM.aI 32 part).contains [])&&part.all λb=>decide (32≤b)&&decide (b≤126)
inductive UO(K:FR)(CB:Addr)(vs:aq)(H:Hp)(Q:VK)(E:XK):Prop
 |mk (ap:Addr) (part:LI) (_:vs=[.ref ap]) (_:ß ap Âs) (_:part.length≤100000) (_:(sD part=true→∀H',ai H H'→Q Èk H')) (_:(sD part=false→No E CB H))
theorem UP{K:FR}{H:Hp}:∀{qs:LA}{L:dc},d9 H qs L→iT K H Ãw (L.map λl=>PyData.list (l.map PyData.int)):=by
 intro qs L h0;induction h0 with
 |nil=>exact .nil
 |cons h t ih=>
  exact .cons (.lst (aa.of h) (qy _)) ih
theorem any_empty(L:dc):((L.map λl=>PyData.list (l.map PyData.int)).any λd=>PyData.eqv d (.list []))=L.contains []:=by
 induction L with
 |nil=>rfl
 |cons l L ih=>
  rw[aY,tp,ih,z4];congr 1;cases l <;> rfl
section
variable{P:Pg}{w:Wd}{K:FR}{mg:MG}{base:Heap}{CK CL CS N CV CP CB:Addr}{C:Cs}
def Mn:bC ["part","byte"] ["part"] (a7 J2):=cu
def aiu{f:Addr}{fd:FD}(F:br K "read_meaning" "read_meaning" J2 f fd)(tL:mg "len"=none)(tA:mg "all"=none)(X:ϊ "NoBook" CB N)(cM:Cn mg "LONGEST_MEANING" (.int 64))(cB:Cn mg "BLANK" År)(cP:Cn mg "LAST_PRINTED" (.int 126))(dC:Å 1 "cut" ["text","mark"] (vw K)):Ê ē 2 f fd ["part"] (UO K CB):=by
 refine F.qw Mn À;obtain⟨ap,part,rfl,hP,hl,k1,k2⟩:=h;refine⟨_,aB (dq (PW.pt (pw_or (cI u4 Ă (b7 cM) (bT _)) (pw_or1 (cI (Iy (oQ (Xv Ø _) hr.un)) ĳ (bz dC (ae Ù Ϯ)) (by with_unfolding_all rfl))))) Ì d7)
  (aB (dq (oW (jr (c6 Äm Ò tA ye (ae (eB (own:=[("byte",1)]) (te:=Hv (gv λi j=>.bl (decide (i≤j))) (gv λi j=>.bl (decide (i≤j))) (tC År) ϖ (tC (.int 126))) rfl Mn.nd Åa É
   (λ_ _ _ _ _=>dv 1 Mn.nd) Ó (λ_ _ _ _ _=>Po wI wI (b7 cB) á (b7 cP))) ag)))) Ì d7)
  (aD (aZ Ù))),?_⟩
 have em:sD part=(!(decide (part.length>64)||(JM.aI 32 part).contains [])&&part.all λb=>decide (32≤b)&&decide (b≤126)):=rfl;refine⟨_,rfl,ap,_,rfl,.inl hP,_,_,rfl,rfl,_,rfl,a9 Í Í⟩
 ·have hc:part.length>64:=by
   grind
  refine ky (gG (k2 ?_));simp_all
 ·have hc:¬part.length>64:=by
   grind
  refine⟨dQ _,λl ud=>⟨_,rfl,ap,32,part,rfl,L2.ai.seq (aK ud) hP,hl,λH2 p qs nw pJ nd aQ fr=>?_⟩⟩;have s1:ai H (Ϛ à):=aK ud;have s2:=s1.trans nw.1;have je:=nw.1 _ _ ao;refine⟨p,_,_,.list [],rfl,aa.of nw.2.2,UP pJ,.lst (aa.of je) .nil,λd hd=>?_,rfl,_,rfl,?_⟩
  ·obtain⟨x,_,rfl⟩:=cb.mp hd;exact shaped_ints x
  rw[any_empty];refine a9 Ãp Ãp
  ·refine gG ((k2 ?_).go s2);simp_all
  ·have e1:sD part=part.all λb=>decide (32≤b)&&decide (b≤126):=by
    simp_all
   refine⟨_,rfl,ap,rfl,⟨_,s2.seq hP⟩,λD hD=>gy (K:=K) (a:=ap) (xs:=iv part) (cw H2 D λi v ns=>ns=[]∧∀b,part[i]? =some b→v=.bl (decide (32≤b)&&decide (b≤126))) ć (λi H' _ f=>(s2.trans f.same).seq hP) ĉ ø⟩
   ·obtain⟨z,hz,rfl⟩:=rS hi;have dY:=(bH.mp hz).1;refine⟨rfl,eJ ⟨_,rfl,_,_,rfl,rfl,_,rfl,a9 š š⟩⟩
    ·refine Ây;refine f.step hD Ä ĸ ⟨rfl,λb hb=>?_⟩ aU.nil Â;simp_all
    ·refine f.step hD Ä ĸ ⟨rfl,λb hb=>?_⟩ aU.nil Â;grind
   ·obtain⟨ys,s3,pB,EM,fl⟩:=f.end;rw[eX] at EM;have ey:ys=(part.map λb=>decide (32≤b)&&decide (b≤126)).map V.bl:=by
     rw[cO];refine um EM λi y x h1 h2=>?_;obtain⟨ns,⟨_,e⟩,_⟩:=fl i y h1;simp_all
    refine⟨D,part.map λb=>decide (32≤b)&&decide (b≤126),rfl,by rw[←ey];exact aa.of pB,_,rfl,?_⟩;rw[qX];have e2:part.all (id∘ λb=>decide (32≤b)&&decide (b≤126))=sD part:=by rw[e1];rfl
    rw[e2];refine a9 (λhc3=>?_) (λhc3=>?_)
    ·exact gG ((k2 Ç).go ī)
    ·exact⟨_,rfl,k1 Ç H' ī⟩
end
abbrev keyOf(name:LI):dX:=name.map Sum.inl
def UQ(name:LI):iv name=(keyOf name).map kV:=by
 unfold iv keyOf;rw[cO];rfl
theorem aiw(h:keyOf a=keyOf b):a=b:=by
 induction a generalizing b with
 |nil=>
  simp_all
 |cons x a ih=>
  cases b with
  |nil=>cases h
  |cons y b=>
   grind
def jD(ms:aF)(i:Nat):Bool:=decide ((ms.getD i fg).role=0)
def sE(ms:aF)(n:Nat):List (LI×Nat):=((List.range n).filter (jD ms)).map λj=>((ms.getD j fg).name,j)
def jE(ms:aF)(name:LI):Option Nat:=(sE ms ms.length).foldl (λacc p=>if p.1=name then some p.2 else acc) none
def xN(ms:aF):List (dX×V):=(sE ms ms.length).foldl (λacc p=>putK acc (keyOf p.1) (V.int ((p.2:Nat):Int))) []
def aix(ms:aF)(name:LI):fJ (xN ms) (keyOf name)=(jE ms name).map λn=>V.int ((n:Nat):Int):=by
 unfold xN jE;have gen:∀(l:List (LI×Nat))(kvs:List (dX×V))(acc:Option Nat),fJ kvs (keyOf name)=acc.map (λn=>V.int ((n:Nat):Int))→
   fJ (l.foldl (λacc p=>putK acc (keyOf p.1) (V.int ((p.2:Nat):Int))) kvs) (keyOf name)=(l.foldl (λacc p=>if p.1=name then some p.2 else acc) acc).map λn=>V.int ((n:Nat):Int):=by
  intro l;induction l with
  |nil=>intro kvs acc h;exact h
  |cons p l ih=>
   intro kvs acc h;rw[GW,GW];refine ih _ _ ?_;rw[aaW];by_cases e:p.1=name
   ·rw[af e,af (by rw[e])];rfl
   ·rw[ah e,ah (λz=>e (aiw z).symm)];exact h
 exact gen _ [] none rfl
def UR(ms:aF)(i:Nat):sE ms (i+1)=sE ms i++(if jD ms i=true then [((ms.getD i fg).name,i)] else []):=by
 unfold sE;rw[BC,bV];grind
inductive US(CK:Addr)(vs:aq)(H:Hp)(Q:VK)(E':XK):Prop
 |mk (pk:Addr) (ks:List az) (_:vs=[.ref pk]) (_:ů ks) (_:∀H' p,ϡ (.dT (xN Ë))→Q Ģ H')
section
variable{P:Pg}{w:Wd}{K:FR}{mg:MG}{base:Heap}{CK CL CS N CV CP CB:Addr}{C:Cs}
def Mo:bC ["kinds","number","kind"] ["kinds"] (a7 JZ):=cu
abbrev UT(K:FR):aq→Hp→VK→Prop:=λxs H Q=>∃p ys,xs=[.ref p]∧((ß p ys∧∀l,H l=none→Q Är (Ϛ Åq))∨(ť p ys∧Q Ģ H))
inductive NoI(D:Addr)(H:Hp)(ks:List az)(i:Nat)(H2:Hp):Prop
 |mk (ps:LA) (ts:List (dX×Addr×V)) (_:ai H H2) (_:H2 D=some (.lst Áx)) (_:ps.length≤i) (_:Paired (λp(t:dX×Addr×V)=>H2 p=some (.tup [.ref t.2.1,t.2.2])∧H2 t.2.1=some (.tup (t.1.map kV))) ps ts) (_:ts.map (λt=>(t.1,t.2.2))=(sE Ë i).map λp=>(keyOf p.1,V.int ((p.2:Nat):Int)))
def aiz(F:br K "numbers_of_signs" "numbers_of_signs" JZ f fd)(T:rW K CK)(tD:mg "dict"=none)(tT:mg "tuple"=none)(tE:mg "enumerate"=none)(cS:Cn mg "SIGN" Ň):Ê aE 1 f fd ["kinds"] (US CK):=by
 refine F.ok Mo À;obtain⟨pk,ks,rfl,hk,k⟩:=h;have hkf:=hk.c8;refine⟨_,aD (aZ (wK (ac8 (oQ (Xv Ø _) hr.un) rfl) Ò tD TX (ae (eB (own:=[("number",1),("kind",2)]) (g:=g2 K 1 2) (tt:=mQ (bQ nW (fY K ŗ "role") Ãu))
   (te:=wJ (bg (ql (UT K) (bg (fY K ŗ "name") du)) (bg ϖ du))) rfl Mo.nd
   (Âi) É
   (λ_ _ _ _ _=>iB 1 2 Mo.nd)
   (λ_ _ _ _ _=>o7 (cI hJ Ài Æo (bT _)))
   (λ_ _ _ _ _=>tO (ae (wK PV Ò tT boot_tuple Çp) Œ))) ag))),?_⟩
 refine⟨_,rfl,pk,_,rfl,aa.of hk.a,λD hD=>lj (K:=K) (a:=pk) (xs:=ks.map λk=>V.ref k.a) (NoI D H ks)
  ⟨[],[],aK hD,ao,bO _,.nil,rfl⟩ (λi H2 _ h=>(by obtain⟨_,_,s1⟩:=h;exact aa.of (s1 _ _ hk.a))) ?_ ?_⟩
 ·rintro i v Tt H2 hi ⟨ps,ts,s1,cE,df,gO,pR⟩ hT;obtain⟨b,hb,rfl⟩:=iu hi;have dY:=(bH.mp hb).1;have s2:ai H2 (upd H2 Tt (.tup [.int (i:Nat),.ref b.a])):=aK hT;have s3:=s1.trans s2;have jS:=(m8 hk.l Ço).same s3;have eb:(ks.map az.m).getD i fg=b.m:=getD_map hb;refine ä;refine⟨_,rfl,bo (ji jS) T.c T.vC (vB b) ĝ⟩;rw[show V.int 0=V.int ((0:Nat):Int) from rfl,lK];generalize hHx:upd H2 Tt (.tup [.int (i:Nat),.ref b.a])=Hx at s2 s3 jS;refine a9 Í Í
  ·refine⟨_,rfl,bo (ji jS) T.c T.nName (SC b) ⟨b.nm,_,rfl,.inl ⟨aa.of (SR jS),λl hl=>⟨_,rfl,(by show 2≤sizeLine;decide),λt ht=>?_⟩⟩⟩⟩;have s4:=aK (o:=.tup (iv b.m.name)) hl;have s5:=s2.trans (s4.trans (aK (o:=.tup [.ref l,.int (i:Nat)]) ht));have bJ:l≠t:=λz=>by rw[←z,ao] at ht;cases ht
   have BK:=s2.free (s4.free ht);have hDl:l≠D:=λz=>by rw[z,s2 _ _ cE] at hl;cases hl
   have LQ:t≠D:=λz=>by rw[z,cE] at BK;cases BK
   refine⟨_,s5 _ _ cE,by rw[aA];exact gQ Ä,ps++[t],ts++[(keyOf b.m.name,l,V.int ((i:Nat):Int))],qz (s1.trans s5) hD,?_,?_,?_,?_⟩
   ·rw[ao,bV];rfl
   ·simp_all
   ·refine Paired.snoc (Paired.lG gO λp t' e=>Áf) Áf
    ·rw[au (λz=>by simp_all)];exact s5 _ _ e.1
    ·rw[au (λz=>by simp_all)];exact s5 _ _ e.2
    ·rw[au LQ];exact ao
    ·rw[au hDl,au bJ,ao,UQ]
   ·rw[bV,pR,UR,af (show jD Ë i=true by unfold jD;rw[eb];exact hc),bV,eb];rfl
  ·refine⟨ps,ts,s1.trans s2,s2 _ _ cE,Nat.le_succ_of_le df,Paired.lG gO λp t e=>⟨s2 _ _ e.1,s2 _ _ e.2⟩,?_⟩;rw[pR,UR,ah (show ¬jD Ë i=true by unfold jD;rw[eb];exact hc),kY]
 ·rintro H2 ⟨ps,ts,s1,cE,df,gO,pR⟩;rw[aA] at pR;refine⟨D,ps,ts,rfl,aa.of cE,gO,λp hp=>?_⟩;refine k _ p ⟨s1.trans (aK hp),s1.free hp,?_⟩;rw[ao];have em:qA [] ts=xN Ë:=by
   have e1:qA [] ts=(ts.map λt=>(t.1,t.2.2)).foldl (λacc p=>putK acc p.1 p.2) []:=by
    unfold qA;rw[List.foldl_map]
   rw[e1,pR,List.foldl_map];unfold xN;simp
  rw[em]
end
def oV:Option Nat→V
 |none=>.aJ
 |some n=>.int ((n:Nat):Int)
def oE(ms:aF)(part:LI):List (Option Nat):=(JM.aI 46 part).map (jE ms)
def vT(ms:aF)(part:LI):Option LN:=if (oE ms part).length>8∨(oE ms part).contains none=true then none else some ((oE ms part).map λo=>o.getD 0)
inductive UU(K:FR)(CB:Addr)(vs:aq)(H:Hp)(Q:VK)(E:XK):Prop
 |mk (ap pn:Addr) (ms:aF) (part:LI) (_:vs=[.ref ap,.ref pn]) (_:ß ap Âs) (_:part.length≤100000) (_:H pn=some (.dT (xN ms))) (_:(∀row,vT ms part=some row→∀H' p,ϡ Ãm→Q Ģ H')) (_:(vT ms part=none→No E CB H))
def aiB(l:List (Option Nat)):(l.map oV).all lg=true:=by
 rw[qX];exact kZ.mpr λo _=>by cases o <;> rfl
theorem aiC(l:List (Option Nat)):u7 .aJ (l.map oV)=l.contains none:=by
 unfold u7;rw[Oo];induction l with
 |nil=>rfl
 |cons o l ih=>
  rw[tp,z4,ih];congr 1;cases o <;> rfl
section
variable{P:Pg}{w:Wd}{K:FR}{mg:MG}{base:Heap}{CK CL CS N CV CP CB:Addr}{C:Cs}
def Mp:bC ["part","numbers","row","name"] ["part","numbers"] (a7 J1):=cu
def aiD(F:br K "read_signs" "read_signs" J1 f fd)(tL:mg "len"=none)(tT:mg "tuple"=none)(X:ϊ "NoBook" CB N)(cF:Cn mg "MOST_FLAGS" (.int 8))(cS:Cn mg "FULL_STOP" (.int 46))(dC:Å 1 "cut" ["text","mark"] (vw K)):Ê ē 2 f fd ["part","numbers"] (UU K CB):=by
 refine F.qw Mp À;obtain⟨ap,pn,ms,part,rfl,hP,hl,Mq,k1,k2⟩:=h;have hu:A.units+3+1<cLine:=oQ Â hr.un;refine⟨_,aB (tW (i:=2) (own:=[("name",3)]) (te:=Qx ϖ (ql (UT K) Ân)) rfl Mp.nd rfl rfl Ò (eV (bz dC (ae Ù (ae Æo ag)))) É
   (λ_ _ _ _ _=>dv 3 Mp.nd) Ó (λ_ _ _ _ _=>abd hu á (wK PV Ò tT boot_tuple Ĳ) ⟨rfl,rfl,rfl,rfl⟩))
  (aB (dq (PW.pt (pw_or (cI u4 ċ (b7 cF) (bT _)) (pw_or1 (cI HI qf è (by with_unfolding_all rfl))))) Ì d7)
  Æq),?_⟩
 refine⟨_,rfl,ap,46,part,rfl,hP,hl,λH1 p qs nw pJ nd aQ fr=>⟨p,rfl,⟨_,aa.of nw.2.2⟩,λD hD=>gy (K:=K) (a:=p) (xs:=qs.map V.ref) (cw H1 D λi v ns=>ns=[]∧∀x,(JM.aI 46 part)[i]? =some x→v=oV (jE ms x)) ć (λi H' _ f=>aa.of (f.same _ _ nw.2.2)) ĉ ø⟩⟩
 ·rw[bX] at hi;cases eq:qs[i]? with
  |none=>simp_all
  |some q=>
   rw[eq] at hi;cases hi;obtain⟨x,hx,hq⟩:=d9.get pJ eq;have dY:=(bH.mp eq).1;have gE:=Ef 46 part;have vI:=pJ.len;have UV:=f.same _ _ (nw.1 _ _ Mq);refine⟨rfl,eJ ⟨_,rfl,pn,rfl,.inr ⟨_,.inl UV⟩,_,rfl,q,_,rfl,.inl ⟨aa.of (f.same _ _ hq),λl ud=>⟨_,jK.t (k:=keyOf x) ((aK ud) _ _ UV) (by rw[ao,UQ]),?_⟩⟩⟩⟩;rw[aix];refine f.step hD Ä (aK ud) ⟨rfl,λx' ve=>?_⟩ aU.nil Â;rw[hx] at ve;cases ve;cases jE ms x <;> rfl
 ·obtain⟨ys,s1,fq,eW,fl⟩:=f.end;rw[aA,pJ.len] at eW;have ey:ys=(oE ms part).map oV:=by
   unfold oE;rw[cO];refine um eW λi y x h1 h2=>?_;obtain⟨ns,⟨_,e⟩,_⟩:=fl i y h1;simp_all
  subst ey;have s2:=nw.1.trans s1;have er:vT ms part=if (oE ms part).length>8∨(oE ms part).contains none=true then none else some ((oE ms part).map λo=>o.getD 0):=rfl;generalize oE ms part=L at fq er;refine⟨_,rfl,D,_,rfl,.inl (aa.of fq),_,_,rfl,rfl,_,rfl,a9 Í Í⟩
  ·have hc:L.length>8:=by
    grind
   refine ky (gG ((k2 ?_).go s2));simp_all
  ·have hc:¬L.length>8:=by
    grind
   refine⟨_,rfl,D,_,rfl,.inl (aa.of fq),rfl,aiB L,_,rfl,?_⟩;rw[aiC];refine a9 Ãp Ãp
   ·refine gG ((k2 ?_).go s2);simp_all
   ·refine⟨_,rfl,k1 _ (by rw[er,ah (λz=>z.elim hc iH)]) H' D ⟨s2,nw.1.free hD,?_⟩⟩;rw[fq];congr 2;unfold iv nv;rw[cO,cO];refine j6 λo ho=>?_;cases o with
    |none=>simp_all
    |some n=>rfl
end
structure bp where
 a:Addr
 dx:Addr
 rw:Addr
 mn:Addr
 row:LN
 Mr:LI
def Fw(e:bp):List (Str×V):=[("row",.ref e.rw),("meaning",.ref e.mn)]
def oG(CE:Addr)(e:bp):jg:=[(e.a,.ins CE e.dx (Fw e)),(e.rw,.lst Çd),(e.mn,.lst (iv e.Mr))]
def bp.m(e:bp):LN×LI:=(e.row,e.Mr)
def BZ(e:bp):(Fw e).lookup ("row":Str)=some (.ref e.rw):=ip
def B0{CE:Addr}{H:Hp}{e:bp}(h:aU H Ãy):H e.a=some (.ins CE e.dx (Fw e)):=h (e.a,_) (by simp[oG])
def B1{CE:Addr}{H:Hp}{e:bp}(h:aU H Ãy):H e.rw=some (.lst Çd):=h (e.rw,_) (by simp[oG])
def aiE{CE:Addr}{H:Hp}{e:bp}(h1:H e.a=some (.ins CE e.dx (Fw e)))(h2:H e.rw=some (.lst Çd))(h3:H e.mn=some (.lst (iv e.Mr))):aU H Ãy:=λz hz=>by
 simp only[oG,bf,my,mz] at hz;rcases hz with rfl|rfl|rfl
 ·exact h1
 ·exact h2
 ·exact h3
def aiF{CE:Addr}{H:Hp}{e:bp}(h1:H e.a=none)(h2:H e.rw=none)(h3:H e.mn=none):iY H Ãy:=λz hz=>by
 simp only[oG,bf,my,mz] at hz;rcases hz with rfl|rfl|rfl
 ·exact h1
 ·exact h2
 ·exact h3
def iy(ms:aF)(line:LI):Option (LN×LI):=if line.contains 32=true then
  match vT ms (line.take (line.idxOf 32)) with
  |none=>none
  |some row=>if sD (line.drop (line.idxOf 32+1))=true then some (row,line.drop (line.idxOf 32+1)) else none
 else none
inductive Ms(K:FR)(CB CE:Addr)(vs:aq)(H:Hp)(Q:VK)(E:XK):Prop
 |mk (ap pn:Addr) (ms:aF) (line:LI) (_:vs=[.ref ap,.ref pn]) (_:ß ap Åo) (_:line.length≤100000) (_:H pn=some (.dT (xN ms))) (_:(∀x,iy ms line=some x→∀H' e,ai H H'→bp.m e=x→aU H' Ãy→iY H Ãy→Q (.ref e.a) H')) (_:(iy ms line=none→No E CB H))
section
variable{P:Pg}{w:Wd}{K:FR}{mg:MG}{base:Heap}{CK CL CS N CV CP CB CE fe:Addr}{C:Cs}
def UW:bC ["line","numbers","end"] ["line","numbers"] (a7 J0):=cu
def aiG{f:Addr}{fd:FD}(F:br K "read_entry" "read_entry" J0 f fd)(X:ϊ "NoBook" CB N)(cB:Cn mg "BLANK" År)(dE:ÿ "Entry" CE ["row","meaning"])(dS:Ć ē 2 "read_signs" ["part","numbers"] (UU K CB)) (dM:Ć ē 2 "read_meaning" ["part"] (UO K CB)):Ê ē 3 f fd ["line","numbers"] (Ms K CB CE):=by
 obtain⟨fS,xl,GS,mS,kS,bS⟩:=dS;obtain⟨fM,fdM,GM,mM,kM,bM⟩:=dM;refine F.qw UW À;obtain⟨ap,pn,ms,line,rfl,hP,hl,Mq,k1,k2⟩:=h;refine⟨_,aB (dq (cI Z5 (b7 cB) Ù (by with_unfolding_all rfl)) Ì d7)
  (aB (cq 2 UW.nd (rK PySem.F.plainAttrs_list PySem.F.slot_list_index PySem.F.type_list_index P8 Ù Ϯ))
  (aD (aZ (pF dE hr (ae (lN GS hr rfl mS kS bS .nil qv (ae (wN wO Ù wL (wM è)) Œ)) (ae (lN GM hr rfl mM kM bM .nil qv (ae (wN wO Ù (wM (eP qj è bh)) wL) ag)) ag)))))),?_⟩
 have ee:iy ms line=if line.contains 32=true then (match vT ms (line.take (line.idxOf 32)) with
  |none=>none
  |some row=>if sD (line.drop (line.idxOf 32+1))=true then some (row,line.drop (line.idxOf 32+1)) else none) else none:=rfl
 refine⟨_,rfl,ap,_,rfl,.inl hP,rfl,Bj _,_,rfl,?_⟩;rw[Ke];refine a9 Í Í
 ·have hc:¬line.contains 32=true:=by simpa using hc
  exact gG (k2 Ç)
 ·have hc:line.contains 32=true:=by simpa using hc
  rw[af hc] at ee;obtain⟨j,zz,ej,hj,Kf,Bk⟩:=RX hc;have u9:j<line.length:=by
   grind
  refine⟨_,rfl,.inl ⟨rfl,_,hP⟩,ap,_,_,j,zz,rfl,rfl,hP,rfl,Bj _,hj,Kf,Bk,?_⟩;have ej:line.idxOf 32=j:=by omega
  rw[ej] at ee;refine⟨_,rfl,_,rfl,_,rfl,ap,_,rfl,hP,λc1 ue=>?_⟩;rw[SO _ (show j≤(iv line).length by grind),show(iv line).take j=iv (line.take j) by simp];have s1:ai H (upd H c1 ϗ):=aK ue;have UX:(upd H c1 ϗ) c1=some ϗ:=ao;generalize upd H c1 ϗ=H1 at s1 UX;refine⟨_,rfl,c1,pn,ms,line.take j,rfl,aa.of UX,by grind,s1 _ _ Mq,λrow er H2 p n2=>?_,λer=>?_⟩
  ·rw[er] at ee;dsimp only at ee;have s2:=s1.trans n2.1;refine⟨_,rfl,_,rfl,_,_,rfl,rfl,_,rfl,ap,_,rfl,s2.seq hP,λc2 iH=>?_⟩;rw[show((j:Int)+1)=((j+1:Nat):Int) from rfl,Bp _ (show j+1≤(iv line).length by grind),show(iv line).drop (j+1)=iv (line.drop (j+1)) by simp];have s3:ai H2 (upd H2 c2 (.lst (iv (line.drop (j+1))))):=aK iH;have Mt:(upd H2 c2 (.lst (iv (line.drop (j+1))))) c2=some (.lst (iv (line.drop (j+1)))):=ao;generalize upd H2 c2 (.lst (iv (line.drop (j+1))))=H3 at s3 Mt;refine⟨c2,line.drop (j+1),rfl,aa.of Mt,by grind,λem H4 s4=>?_,λem=>?_⟩
   ·rw[af em] at ee;refine vD rfl λx dx H5 hx iV aQ e5 s5=>?_;have s6:=s2.trans (s3.trans s4);refine k1 _ ee H5 ⟨x,dx,p,c2,row,line.drop (j+1)⟩ (s6.trans s5) rfl (aiE e5 (s5 _ _ (s4 _ _ (s3 _ _ n2.2.2))) (s5 _ _ (s4 _ _ Mt))) (aiF (s6.free hx) (s1.free n2.2.1) (s2.free iH))
   ·rw[ah Ç] at ee;exact(k2 ee).go ī
  ·rw[er] at ee;exact(k2 ee).go s1
end
def uE(r s:LN):Bool:=if ((r.length:Nat):Int)=((s.length:Nat):Int) then HT.lexLt (nv r) (nv s) else decide (((r.length:Nat):Int)<((s.length:Nat):Int))
def zI(rows:bq):Bool:=(rows.zip (rows.drop 1)).all λp=>uE p.1 p.2
structure xO(CE:Addr)(H:Hp)(p:Addr)(es:List bp):Prop where
 a:H p=some (.lst (es.map λe=>V.ref e.a))
 l:∀e∈es,aU H Ãy
 c8:es.length≤2048
def xO.same{CE:Addr}{H H':Hp}{p:Addr}{es:List bp}(h:xO CE H p es)(s:ai H H'):xO CE H' p es:=⟨s _ _ h.a,λe he=>(h.l e he).same s,h.c8⟩
inductive UY(CE:Addr)(vs:aq)(H:Hp)(Q:VK)(E':XK):Prop
 |mk (p:Addr) (es:List bp) (_:vs=[.ref p]) (_:xO CE H p es) (_:∀H',ai H H'→Q (.bl (zI Âx)) H')
def B3(row:LN)(rw p:Addr):jg:=[(p,.tup [.int ((row.length:Nat):Int),.ref rw])]
section
variable{P:Pg}{w:Wd}{K:FR}{mg:MG}{base:Heap}{CK CL CS N CV CP CB CE fe:Addr}{C:Cs}
def zJ:bC ["entries","places","entry","before","place"] ["entries"] (a7 J3):=cu
def aiH(F:br K "are_in_order" "are_in_order" J3 f fd)(T:lu K CE ["row","meaning"])(tL:mg "len"=none)(tA:mg "all"=none)(tE:mg "enumerate"=none):Ê aE 1 f fd ["entries"] (UY CE):=by
 refine F.ok zJ À;obtain⟨p,es,rfl,hp,k⟩:=h;have hu:A.units+3+128<cLine:=by have:=hr.un;exact oQ Â this
 refine⟨_,aB (cq 1 zJ.nd (eB (own:=[("entry",2)]) (te:=wJ (bg (ql (λxs H Q=>∃p ys,xs=[.ref p]∧(ß p ys∨bu K H p ys)∧Q (.int ((ys.length:Nat):Int)) H) (bg (fY K ŗ "row") du)) (bg (fY K ŗ "row") du))) rfl zJ.nd Åa É
   (λ_ _ _ _ _=>dv 2 zJ.nd) Ó (λ_ _ _ _ _=>tO (ae (c6 f7 Ò tL PySem.boot_len Çp) Çp))))
  (aD (aZ (c6 Äm Ò tA ye (ae (eB (own:=[("before",3),("place",4)]) (g:=g2 K 3 4) (te:=bQ (Rv K) (bQ ύ ϖ Ŗ) Ãi) rfl zJ.nd
   (ku Ò tE (ae (wN wO á (wM bh) wL) ag)) É
   (λ_ _ _ _ _=>iB 3 4 zJ.nd) Ó
   (λ_ _ _ _ _=>jt (adh hu) (cA cQ á õ Õ) ı (bT _))) ag)))),?_⟩
 have hf:=hp.c8;refine⟨_,rfl,p,rfl,⟨_,aa.of hp.a⟩,λD hD=>gy (K:=K) (a:=p) (xs:=es.map λe=>V.ref e.a) (cw H D λi y ns=>∃b:bp×Addr,es[i]? =some b.1∧y=.ref b.2∧ns=B3 b.1.row b.1.rw b.2) ć (λi H' _ f=>aa.of (f.same _ _ hp.a)) ĉ ø⟩
 ·obtain⟨e,he,rfl⟩:=iu hi;have dY:=(bH.mp he).1;have hl:=(hp.l e (bY he)).same f.same;refine⟨rfl,eJ ⟨_,rfl,bo (B0 hl) T.1 (T.2 _ Â) (BZ e) ⟨e.rw,_,rfl,.inl (aa.of (B1 hl)),_,rfl,bo (B0 hl) T.1 (T.2 _ Â) (BZ e) ⟨(by show 2≤sizeLine;decide),λt ht=>?_⟩⟩⟩⟩;refine f.step hD Ä (aK ht) ⟨(e,t),he,rfl,rfl⟩ ?_ ?_
  ·intro z hz;simp only[B3,nJ] at hz;subst hz;rw[ao];simp
  ·intro z hz;simp only[B3,nJ] at hz;subst hz;obtain⟨ys,_,hd,_⟩:=f.end;grind
 ·obtain⟨ys,s1,hd,hl,fl⟩:=f.end;obtain⟨bs,rfl,r1,l1⟩:=xu (v:=λb:bp×Addr=>V.ref b.2) (nd:=λb=>B3 b.1.row b.1.rw b.2) (R:=λi b=>es[i]? =some b.1) fl;rw[aA,aA] at hl;have Al:∀(i:Nat)(b:bp×Addr),bs[i]? =some b→H' b.2=some (.tup [.int ((b.1.row.length:Nat):Int),.ref b.1.rw])∧H' b.1.rw=some (.lst (iv (nv b.1.row))):=λi b hb=>⟨l1 b Ço (b.2,.tup [.int ((b.1.row.length:Nat):Int),.ref b.1.rw]) (by simp[B3]),s1 _ _ (B1 (hp.l b.1 (bY (r1 i b hb))))⟩;have ebs:bs.map Prod.fst=es:=by
   apply wm;grind
  refine⟨_,rfl,_,rfl,D,_,rfl,aa.of hd,λc hc=>?_⟩;have ex:nX (bs.map λb=>V.ref b.2) (some 1) none=(bs.drop 1).map λb=>V.ref b.2:=by
   by_cases hz:1≤bs.length
   ·rw[show(1:Int)=((1:Nat):Int) from rfl,Bp _ Ç,OE]
   ·have:bs=[]:=by
     simp_all
    rw[this];rfl
  rw[ex];have s2:=aK (o:=.lst ((bs.drop 1).map λb=>V.ref b.2)) hc;have jc:(upd H' c (.lst ((bs.drop 1).map λb=>V.ref b.2))) c=some (.lst ((bs.drop 1).map λb=>V.ref b.2)):=ao;generalize upd H' c (.lst ((bs.drop 1).map λb=>V.ref b.2))=H2 at s2 jc;refine⟨c,_,rfl,aa.of jc,λD2 cE=>lj (K:=K) (a:=c) (xs:=(bs.drop 1).map λb=>V.ref b.2) (cw H2 D2 λi y ns=>ns=[]∧∃a b,bs[i]? =some a∧bs[i+1]? =some b∧y=.bl (uE a.1.row b.1.row)) Ãh (λi H3 _ f=>aa.of (f.same _ _ jc)) (λi y Tt H3 hi f hT=>?_) Åv⟩
  ·obtain⟨b,hb,rfl⟩:=iu hi;rw[Xw] at hb;have hb:bs[i+1]? =some b:=by rw[←hb];congr 1;omega
   have hib:=(bH.mp hb).1;obtain⟨a,ha⟩:∃a,bs[i]? =some a:=⟨_,dm Ä⟩;have s3:ai H3 (upd H3 Tt (.tup [.int (i:Nat),.ref b.2])):=aK hT;have s4:=(s2.trans f.same).trans s3;have UZ:=Al i a ha;have Fx:=Al _ b hb;refine Ü;refine⟨_,rfl,_,rfl,D,_,(i:Int),.ref a.2,rfl,rfl,aa.of (s4 _ _ hd),fZ Ç,_,rfl,a.2,b.2,a.1.rw,b.1.rw,_,_,nv a.1.row,nv b.1.row,rfl,rfl,bu.of (s4 _ _ UZ.1),bu.of (s4 _ _ Fx.1),aa.of (s4 _ _ UZ.2),aa.of (s4 _ _ Fx.2),?_⟩;exact f.step cE Ä s3 ⟨rfl,a,b,ha,hb,rfl⟩ aU.nil Â
  ·obtain⟨ys,s3,pB,EM,fl⟩:=f.end;have hz:((es.map bp.row).zip ((es.map bp.row).drop 1)).length=ys.length:=by
    simp_all
   have ey:ys=(((es.map bp.row).zip ((es.map bp.row).drop 1)).map λp=>uE p.1 p.2).map V.bl:=by
    rw[cO];refine um hz.symm λi y x h1 h2=>?_;obtain⟨ns,⟨_,a,b,ea,eb,e⟩,_⟩:=fl i y h1;grind
   refine⟨D2,_,rfl,by rw[←ey];exact aa.of pB,?_⟩;have q:=k H3 (s1.trans ī);rw[qX];exact q
end
def zK(h:H y.a=some (.lst (y.ls.map λx=>V.ref x.a)))(h2:∀x∈y.ls,H x.a=some Ż):aU H Æk:=λz hz=>by
 rcases bf.mp hz with rfl|hz
 ·exact h
 ·obtain⟨x,hx,hz⟩:=j7.mp hz;simp only[lsN,nJ] at hz;simp_all
def jW(ms:aF)(row:LN):Bool:=match nD ms [row] with
 |some (some _)=>true
 |_=>false
structure Fy(ms:aF)(rows:bq):Prop where
 short:∀r∈rows,r.length≤8
 lt:∀r∈rows,∀s∈r,s<ms.length
 sg:∀r∈rows,∀s∈r,jD ms s=true
inductive U0(CK CE:Addr)(vs:aq)(H:Hp)(Q:VK)(E':XK):Prop
 |mk (pk:Addr) (ks:List az) (p:Addr) (es:List bp) (_:vs=[.ref pk,.ref p]) (_:ů ks) (_:vS Ë) (_:xO CE H p es) (_:Fy Ë Âx) (_:(∀e∈es,nD Ë [e.row]≠none)) (_:∀H',ai H H'→Q (.bl ((es.map bp.row).all (jW Ë))) H')
section
variable{P:Pg}{w:Wd}{K:FR}{mg:MG}{base:Heap}{CK CL CS N CV CP CB CE fe:Addr}{C:Cs}
def Mu:bC ["kinds","entries","entry"] ["kinds","entries"] (a7 J4):=cu
def aiI(F:br K "can_be_shown" "can_be_shown" J4 f fd)(T:lu K CE ["row","meaning"])(tA:mg "all"=none)(dD:Å 4 "display_told" ["kinds","rows"] (Fp CK)):Ê aE 5 f fd ["kinds","entries"] (U0 CK CE):=by
 refine F.ok Mu À;obtain⟨pk,ks,p,es,rfl,hk,hm,hp,U1,hd,k⟩:=h;refine⟨_,aD (aZ (c6 Äm Ò tA ye (ae (eB (own:=[("entry",2)]) (te:=O2 (gY (Fp CK) [] E0 (bg ώ (bg (yx (bg (fY K ŗ "row") du)) du)))) rfl Mu.nd Æi É
   (λ_ _ _ _ _=>dv 2 Mu.nd) Ó (λ_ _ _ _ _=>O4 (Hf (bz dD (ae Ù (ae (eG Çp) ag)))))) ag))),?_⟩
 have hf:=hp.c8;refine⟨_,rfl,p,rfl,⟨_,aa.of hp.a⟩,λD hD=>gy (K:=K) (a:=p) (xs:=es.map λe=>V.ref e.a) (cw H D λi y ns=>ns=[]∧∃e,es[i]? =some e∧y=.bl (jW Ë e.row)) ć (λi H' _ f=>aa.of (f.same _ _ hp.a)) ĉ ø⟩
 ·obtain⟨e,he,rfl⟩:=iu hi;have dY:=(bH.mp he).1;have Bo:=bY he;have hl:=(hp.l e Bo).same f.same;refine⟨rfl,eJ ⟨_,rfl,_,rfl,bo (B0 hl) T.1 (T.2 _ Â) (BZ e) ⟨(by show 1≤sizeLine;decide),λl G9=>?_⟩⟩⟩;have s1:ai H' (upd H' l (.lst [.ref e.rw])):=aK G9;have eW:(upd H' l (.lst [.ref e.rw])) l=some (.lst [.ref e.rw]):=ao;generalize upd H' l (.lst [.ref e.rw])=H1 at s1 eW;cases ed:nD Ë [e.row] with
  |none=>simp_all
  |some r=>
   have hrw:=U1.short e.row (cb.mpr ⟨e,Bo,rfl⟩);refine⟨pk,ks,⟨l,[⟨e.rw,e.row⟩]⟩,r,rfl,(hk.same f.same).same s1,hm,⟨zK eW Áq,Â,Áq,Áq⟩,(by simp[b9.m];omega),ed,λhs eh H2 z s2 ez lz fz=>?_,λeh H2 s2=>?_⟩
   ·obtain rfl:x=_:=by simpa using hx
    exact s1 _ _ (B1 hl)
   ·grind
   ·obtain rfl:x=_:=by simpa using hx
    intro s hs;have:=U1.lt e.row (cb.mpr ⟨e,Bo,rfl⟩) s hs;simp_all
   ·exact f.step hD Ä Àv ⟨rfl,e,he,by unfold jW;rw[ed,eh];rfl⟩ aU.nil Â
   ·exact f.step hD Ä Àv ⟨rfl,e,he,by unfold jW;rw[ed,eh];rfl⟩ aU.nil Â
 ·obtain⟨ys,s1,fq,hl,fl⟩:=f.end;rw[aA] at hl;have ey:ys=((es.map bp.row).map (jW Ë)).map V.bl:=by
   rw[cO,cO];refine um hl λi y x h1 h2=>?_;obtain⟨ns,⟨_,e,ee,rfl⟩,_⟩:=fl i y h1;simp_all
  refine⟨D,_,rfl,by rw[←ey];exact aa.of fq,?_⟩;simp_all
end
def iZ(ms:aF):dc→Option (List (LN×LI))
 |[]=>some []
 |l::r=>match iy ms l,iZ ms r with
  |some e,some es=>some (e::es)
  |_,_=>none
theorem aiJ{ms:aF}{r:dc}:∀{l:LI},l∈r→iy ms l=none→iZ ms r=none:=by
 induction r with
 |nil=>intro l h;cases h
 |cons x r ih=>
  intro l h e;unfold iZ;rcases bf.mp h with rfl|h
  ·rw[e]
  ·rw[ih h e];cases iy ms x <;> rfl
theorem aiK{ms:aF}{r:dc}:∀{es:List (LN×LI)},es.length=r.length→(∀(i:Nat)l e,r[i]? =some l→es[i]? =some e→iy ms l=some e)→iZ ms r=some es:=by
 induction r with
 |nil=>
  intro ms h _;cases ms with
  |nil=>rfl
  |cons _ _=>cases h
 |cons l r ih=>
  intro es h k;cases es with
  |nil=>cases h
  |cons m es=>
   unfold iZ;rw[k 0 l m rfl rfl,ih (es:=es) (by simpa using h) λi l m h1 h2=>k (i+1) l m h1 h2]
def Fz(ms:aF)(nm:LI):Option (List (LN×LI))→Option (LI×List (LN×LI))
 |some es=>if (zI (es.map (·.1))&&(es.map (·.1)).all (jW ms))=true then some (nm,es) else none
 |none=>none
def Mv(name:LI)(ms:aF)(nb nf:Option LI)(r:dc):Option (LI×List (LN×LI)):=match nb with
 |none=>none
 |some nm=>if nf=some name then Fz ms nm (iZ ms r) else none
def book1(name:LI)(ms:aF):Option dc→Option (LI×List (LN×LI))
 |some (l::f::r)=>if r.length≤2048 then Mv name ms (fc (codes "book") l) (fc (codes "for") f) r else none
 |_=>none
def jX(name:LI)(ms:aF)(bA:LI):Option (LI×List (LN×LI)):=book1 name ms (jz bA)
theorem aiL(p:α→β→Prop)[∀x y,Decidable (p x y)](y:β)(f:α→Nat)(R:Nat→Prop)(l:List α):∀(acc:Option Nat),(∀x∈l,R (f x))→(∀m,acc=some m→R m)→∀m,l.foldl (λacc x=>if p x y then some (f x) else acc) acc=some m→R m:=by
 induction l with
 |nil=>exact @λacc _ h m e=>h m e
 |cons x l ih=>
  intro acc hl h m e;refine ih _ (λz hz=>hl z (aN _ hz)) (λm' e'=>?_) m e;dsimp only at e';split at e'
  ·cases e';exact hl x Â
  ·exact h m' e'
def aiM{ms:aF}{name:LI}{n:Nat}(h:jE ms name=some n):n<ms.length∧jD ms n=true:=by
 unfold jE at h;refine aiL (λ(p:LI×Nat)(nm:LI)=>p.1=nm) name (λp=>p.2) (λn=>n<ms.length∧jD ms n=true) (sE ms ms.length) none Áq (λm e=>(by cases e)) n h;unfold sE at hx;obtain⟨j,hj,rfl⟩:=cb.mp hx;obtain⟨h1,h2⟩:=j3.mp hj;exact⟨by simpa using h1,h2⟩
def aiN{ms:aF}{part:LI}{row:LN}(h:vT ms part=some row):row.length≤8∧∀s∈row,s<ms.length∧jD ms s=true:=by
 unfold vT at h;by_cases hc:(oE ms part).length>8∨(oE ms part).contains none=true
 ·grind
 ·rw[ah hc] at h;have h:=(aO h).symm;subst h;refine⟨?_,λs hs=>?_⟩
  ·simp_all
  ·obtain⟨o,ho,rfl⟩:=cb.mp hs;cases o with
   |none=>simp_all
   |some n=>
    unfold oE at ho;obtain⟨x,_,e⟩:=cb.mp ho;exact aiM e
def Mw(h:iy ms line=some e):e.1.length≤8∧∀s∈e.1,s<ms.length∧jD ms s=true:=by
 unfold iy at h;split at h
 ·split at h
  ·simp_all
  ·rename_i row er;split at h
   ·have h:=(aO h).symm;subst h;exact aiN er
   ·simp_all
 ·cases h
structure pV where
 a:Addr
 dx:Addr
 nm:Addr
 el:Addr
 name:LI
 es:List bp
def U2(b:pV):List (Str×V):=[("name",.ref b.nm),("entries",.ref b.el)]
def U3(b:pV):(U2 b).lookup ("entries":Str)=some (.ref b.el):=(fO È).trans ip
structure xP(fe CE:Addr)(H:Hp)(b:pV):Prop where
 a:H b.a=some (.ins fe b.dx (U2 b))
 n:H b.nm=some (.lst (iv b.name))
 e:xO CE H b.el b.es
def xP.same{fe CE:Addr}{H H':Hp}{b:pV}(h:xP fe CE H b)(s:ai H H'):xP fe CE H' b:=⟨s _ _ h.a,s _ _ h.n,h.e.same s⟩
def pV.m(b:pV):LI×List (LN×LI):=(b.name,b.es.map bp.m)
structure uF(CL CK:Addr)(H:Hp)(l:uj):Prop where
 lies:aU H Ãd
 c8:l.kinds.length≤66000
 look:∀k∈l.kinds,iI k.m.look
 ms:vS Ï
 sh:∀rows,(∀r∈rows,∀s∈r,jD Ï s=true)→nD Ï rows≠none
def uF.same(h:uF CL CK H l)(s:ai H H'):uF CL CK H' l:=⟨h.lies.same s,h.c8,h.look,h.ms,h.sh⟩
def uF.ks(h:uF CL CK H l):oq CK H l.kl l.kinds:=⟨agQ h.lies,agR h.lies,by have:=h.c8;omega,h.look⟩
inductive U4(K:FR)(CL CK CB CE fe:Addr)(vs:aq)(H:Hp)(Q:VK)(E:XK):Prop
 |mk (l:uj) (ap:Addr) (bA:LI) (_:vs=[.ref l.a,.ref ap]) (_:uF CL CK H l) (_:ß ap (iv bA)) (_:bA.length≤66000) (_:(∀x,jX l.name Ï bA=some x→∀H' b,ai H H'→pV.m b=x→xP fe CE H' b→Fy Ï Ú→Q Æx H')) (_:(jX l.name Ï bA=none→No E CB H))
section
variable{P:Pg}{w:Wd}{K:FR}{mg:MG}{base:Heap}{CK CL CS N CV CP CB CE fe:Addr}{C:Cs}
def zL:bC ["locker","text","lines","name","numbers","entries","line"] ["locker","text"] (a7 JY):=cu
def aiO{f:Addr}{fd:FD}(F:br K "read_book" "read_book" JY f fd)(X:ϊ "NoBook" CB N)(TL:lu K CL ["name","kinds"])(tL:mg "len"=none)(cT:Cn mg "TITLE_LINES" (.int 2))(cM:Cn mg "MOST_ENTRIES" (.int 2048))(dW:Å 2 "whole_lines" ["text"] (KN K)) (dN:Å 4 "name_behind" ["title","line"] (KM K)) (dU:Å 1 "numbers_of_signs" ["kinds"] (US CK)) (dE:Ć ē 3 "read_entry" ["line","numbers"] (Ms K CB CE))(dO:Å 1 "are_in_order_books" ["entries"] (UY CE)) (dC:Å 5 "can_be_shown" ["kinds","entries"] (U0 CK CE)) (dB:ÿ "Book" fe ["name","entries"]):
  a8 P w K mg base ē 6 f fd ["locker","text"] (U4 K CL CK CB CE fe):=by
 obtain⟨fE,fdE,GE,mE,kE,bE⟩:=dE;refine F.qw zL À;obtain⟨l,ap,bA,rfl,hL,hP,hl,k1,k2⟩:=h;have Ko:dw 3 _:=hr.mono Ø;refine⟨_,aB (cq 2 zL.nd (bz (hr:=hr) dW Œ))
  (aB (dq (PW.pt (pw_or Æd (pw_or1 (oW (Zs wI wI (b7 cT) ċ (eP qj (b7 cT) (b7 cM))))))) Ì d7)
  (aB (cq 3 zL.nd (bz (hr:=hr) dN (ae Dc (ae Àm ag))))
  (aB (dq (PW.pt (pw_or (nU (qg õ)) (pw_or1 (cI (HR hr.units) (bz (hr:=hr) dN (ae Dc (ae Àm ag))) ë (bT _))))) Ì d7)
  (aB (cq 4 zL.nd (bz (hr:=hr) dU Æp))
  (aB (Q5 (i:=5) (own:=[("line",6)]) (g:=oX 6) (tt:=AK) (te:=gY (Ms K CB CE) [] E (bg (ay 6) (bg Ãi du))) rfl w8 zL.nd rfl rfl Ò (eV (wN wO è (wM (b7 cT)) wL)) É
   (λ_ _ _ _ _=>dv 6 zL.nd) Ó (λ_ _ _ _ _=>lN GE Ko rfl mE kE bE .nil qv (ae Ãe ϣ)))
  (aB (dq (PW.pt (pw_or (oW (jr (bz (hr:=hr) dO Ť))) (pw_or1 (oW (jr (bz (hr:=hr) dC (ae ë Ť)))))))
   (Ì) d7)
  (aD (aZ (pF dB hr (ae õ Ť)))))))))),?_⟩
 refine⟨_,rfl,ap,bA,rfl,hP,by omega,λH1 v s1 hv=>?_⟩;have K8:∀L,jz bA=some L→∀w∈L,w.length≤100000:=λL e=>by
  unfold jz at e;split at e
  ·have e:=aO e;subst e;refine λw hw=>?_;have:=xk 10 bA w (Ad _ hw);omega
  ·simp_all
 have el:jX l.name Ï bA=book1 l.name Ï (jz bA):=rfl;generalize jX l.name Ï bA=bk at el k1 k2;cases ew:jz bA with
 |none=>
  rw[ew] at hv el;have hv:=hv;subst hv;exact⟨_,rfl,_,rfl,ky (gG ((k2 el).go s1))⟩
 |some L=>
  have l5:=K8 L ew;rw[ew] at hv el;obtain⟨p,qs,rfl,p7,hp,pJ,fr⟩:=hv;have vI:=pJ.len;refine⟨_,rfl,_,rfl,mZ ⟨_,rfl,p,_,rfl,.inl (aa.of hp),?_⟩⟩;rw[aA,vI];refine⟨_,_,rfl,rfl,_,rfl,a9 š š⟩
  case' refine_2=>
   have h1:¬(2:Int)≤((L.length:Nat):Int):=by simpa using h1
   refine⟨_,rfl,ky (gG ((k2 (el.trans ?_)).go s1))⟩
   match L,h1 with
   |[],_=>rfl
   |[_],_=>rfl
   |a::b::c,h1=>exact absurd (by simp only[cZ];omega) h1
  simp at h1;obtain⟨la,lb,r,rfl⟩:∃a b c,L=a::b::c:=by
   match L,h1 with
   |[],h1=>exact absurd h1 Â
   |[_],h1=>exact absurd h1 Â
   |a::b::c,_=>exact⟨a,b,c,rfl⟩
  cases pJ with
  | @cons q l0 qs0 r0 hq pJ=>
  cases pJ with
  | @cons q2 l2 qs r2 xg uM=>
  have uM:d9 H1 qs r:=uM;have vI:=uM.len;refine⟨_,_,rfl,rfl,_,_,rfl,rfl,_,rfl,a9 Áh Áh⟩
  ·have h2:¬r.length≤2048:=by
    grind
   exact gG ((k2 (el.trans (ah h2))).go s1)
  have h2:r.length≤2048:=by
   grind
  have el:=el.trans (af h2);refine⟨_,rfl,p,_,0,V.ref q,rfl,rfl,aa.of hp,fZ (j:=0) rfl,"book",q,la,rfl,by decide,aa.of hq,l5 la Â,λH3 vn s3 hn=>?_⟩;have pG:=s1.trans s3;generalize fc (codes "book") la=nb at hn el;cases nb with
  |none=>
   have hn:=hn;subst hn;exact⟨_,rfl,_,rfl,ky (gG ((k2 el).go pG))⟩
  |some nm=>
  obtain⟨an,rfl,EN,lL⟩:=hn;refine⟨_,rfl,_,rfl,mZ ⟨_,rfl,p,_,1,V.ref q2,rfl,rfl,aa.of (s3 _ _ hp),fZ (j:=1) rfl,"for",q2,lb,rfl,by decide,aa.of (s3 _ _ xg),l5 lb Â,λH4 vf s4 hf=>?_⟩⟩;have n0:=pG.trans s4;have L4:=hL.same n0;refine⟨_,rfl,bo (By L4.lies) TL.1 (TL.2 _ Â) (afu l) ?_⟩;have FA:H4 l.nm=some (.lst (iv l.name)):=L4.lies (l.nm,_) (by simp[rY]);generalize fc (codes "for") lb=nf at hf el;obtain⟨d,fq,fA,pB⟩:∃d,Dp K H4 vf d∧SeqAt.shaped d=true∧PyData.eqv d (.list (l.name.map PyData.int))=decide (nf=some l.name):=by
   cases nf with
   |none=>
    have hf:=hf;subst hf;exact⟨_,.aJ,rfl,rfl⟩
   |some x=>
    obtain⟨c,rfl,_,hc⟩:=hf;refine⟨_,.lst (aa.of hc) (qy x),shaped_ints _,?_⟩;show PyData.eqvAll _ _=_;rw[w9];simp
  refine⟨d,_,fq,.lst (aa.of FA) (qy _),fA,shaped_ints _,_,rfl,?_⟩;rw[pB];refine a9 (λh3=>?_) (λh3=>?_)
  ·simp at h3;exact gG ((k2 (el.trans (ah h3))).go n0)
  simp at h3;have el:=el.trans (af h3);refine⟨_,rfl,bo (By L4.lies) TL.1 (TL.2 _ Â) (EC l) ⟨l.kl,l.kinds,rfl,L4.ks,λH5 pn n5=>?_⟩⟩;have vF:=n0.trans n5.1;have GZ:=n5.1 _ _ (s4 _ _ (s3 _ _ hp));refine⟨_,rfl,_,rfl,p,_,rfl,aa.of GZ,λc hc=>?_⟩;rw[show nX ((q::q2::qs).map V.ref) (some 2) none=qs.map V.ref from(Bp _ (i:=2) Â).trans rfl];have s6:=aK (o:=.lst Ãw) hc;have jc:(upd H5 c Č) c=some Č:=ao;generalize upd H5 c Č=H6 at s6 jc;have xo:=vF.trans s6;have aiP:=uM.same (((s3.trans s4).trans n5.1).trans s6);have aiQ:=s6 _ _ n5.2.2;refine⟨c,rfl,⟨_,aa.of jc⟩,λD hD=>gy (K:=K) (a:=c) (xs:=qs.map V.ref) (cw H6 D λi y ns=>∃b:bp,(∀l',r[i]? =some l'→iy Ï l'=some b.m)∧y=.ref b.a∧ns=oG CE b) ć
     (λi H7 _ f=>aa.of (f.same _ _ jc)) (λi y H7 hi f=>?_) (λH7 f=>?_)⟩
  ·rw[bX] at hi;cases eq:qs[i]? with
   |none=>simp_all
   |some qi=>
    rw[eq] at hi;have ey:=aO hi;subst ey;have dY:=(bH.mp eq).1;obtain⟨q',_,e',h'⟩:=aiP.at (j:=i) Ä;rw[bX,eq] at e';have e':=aO e';injection e' with e';subst e';have qm:r[i]? =some (r.getD i []):=by
     simp_all
    have vJ:=bY qm;refine⟨rfl,eJ ⟨_,rfl,_,rfl,qi,pn,l.kinds.map az.m,r.getD i [],rfl,aa.of (f.same _ _ h'),l5 _ (aN _ (aN _ vJ)),f.same _ _ aiQ,λm em H8 en s8 ek Io o6=>?_,λen=>?_⟩⟩
    ·refine f.step hD Ä s8 ⟨en,λl' hl=>?_,rfl,rfl⟩ Io λx hx e=>f.has (by rw[←e];exact o6 x hx);simp_all
    ·exact(k2 (by rw[el,aiJ vJ en];rfl)).go (xo.trans f.same)
  ·obtain⟨ys,s7,hd7,U5,fl⟩:=f.end;rw[aA] at U5;obtain⟨es,e1,r1,l1⟩:=xu (v:=λb:bp=>V.ref b.a) (nd:=oG CE) (R:=λi b=>∀l',r[i]? =some l'→iy Ï l'=some b.m) fl;subst e1;rw[aA] at U5;have zA:∀(i:Nat)(b:bp),es[i]? =some b→∃l',iy Ï l'=some b.m:=λi b hb=>by
    grind
   have ees:iZ Ï r=some (es.map bp.m):=aiK Ç λi l' m h1 h2=>by
    grind
   rw[ees] at el;have emr:(es.map bp.m).map (·.1)=es.map bp.row:=by
    rw[cO];rfl
   have el:bk=if (zI Âx &&(es.map bp.row).all (jW Ï))=true then some (nm,es.map bp.m) else none:=by
    rw[←emr];exact el
   have zg:=xo.trans s7;have Mx:xO CE H7 D es:=⟨hd7,l1,by omega⟩;have uG:Fy Ï Âx:=by
    refine⟨λrow zM=>?_,λrow zM s hs=>?_,λrow zM s hs=>?_⟩
    all_goals
     obtain⟨b,hb,rfl⟩:=cb.mp zM;obtain⟨i,hi,e⟩:=qY hb;obtain⟨l',e'⟩:=zA i b (by rw[←e];exact dm hi);have:=Mw e'
    ·simp_all
    ·simp_all
    ·simp_all
   refine⟨_,rfl,D,es,rfl,Mx,λH8 s8=>⟨_,rfl,a9 (λho=>?_) (λho=>?_)⟩⟩
   ·simp at ho;rw[ho,kW,ah Ø] at el;exact gG ((k2 el).go (zg.trans s8))
   simp at ho;have U6:=zg.trans s8;have L8:=hL.same U6;refine⟨_,rfl,bo (By L8.lies) TL.1 (TL.2 _ Â) (EC l) ⟨_,rfl,l.kl,l.kinds,D,es,rfl,L8.ks,L8.ms,Mx.same s8,uG,λe he=>L8.sh [e.row] (λr hr s hs=>by
     obtain rfl:r=e.row:=by simpa using hr
     exact uG.sg _ (cb.mpr ⟨e,he,rfl⟩) s hs),λH9 s9=>⟨_,rfl,a9 Ė Ė⟩⟩⟩
   ·have hd:(es.map bp.row).all (jW Ï)=false:=by simpa using hd
    rw[hd,yc,ah Ø] at el;exact gG ((k2 el).go (U6.trans s9))
   have hd:(es.map bp.row).all (jW Ï)=true:=by simpa using hd
   rw[ho,hd,Oz,af rfl] at el;have My:=s8.trans s9;exact⟨_,rfl,_,rfl,vD rfl λx dx Ha hx iV aQ ea sa=>(k1 _ el Ha ⟨x,dx,an,D,nm,es⟩ ((zg.trans My).trans sa) rfl ⟨ea,sa _ _ (My _ _ (s7 _ _ (s6 _ _ (n5.1 _ _ (s4 _ _ lL))))),Mx.same (My.trans sa)⟩ uG)⟩
end
def mf(rows:bq)(i:Nat):Nat:=(rows.getD i []).length
def zN(rows:bq)(a b:Bool)(n:Nat)(i:Nat):Bool:=decide (mf rows i=n)||((a||b)&&decide (n<mf rows i))
def qP(rows:bq)(g:iC):LN:=(List.range rows.length).filter (zN rows g.above g.below g.flags.length)
inductive Mz(C:Cs)(fe CE:Addr)(vs:aq)(H:Hp)(Q:VK)(E':XK):Prop
 |mk (b:pV) (g:cg) (_:vs=[.ref b.a,.ref g.a]) (_:xP fe CE H b) (_:Lies H Æh) (_:∀H' p,ϡ (.lst (iv (nv (qP Ú g.m))))→Q Ģ H')
abbrev U7(K:FR):aq→Hp→VK→Prop:=λxs H Q=>∃p ys,xs=[.ref p]∧(ß p ys∨bu K H p ys)∧Q (.int ((ys.length:Nat):Int)) H
section
variable{P:Pg}{w:Wd}{K:FR}{mg:MG}{base:Heap}{CK CL CS N CV CP CB CE fe:Addr}{C:Cs}
def xQ:bC ["book","glimpse","seen","may_be_longer","lengths","entry","number","length"] ["book","glimpse"] (a7 J6):=cu
def aiU(F:br K "entries_in_doubt" "entries_in_doubt" J6 f fd)(TC:lW K C)(TB:lu K fe ["name","entries"])(TE:lu K CE ["row","meaning"])(tL:mg "len"=none)(tE:mg "enumerate"=none):Ê aE 1 f fd ["book","glimpse"] (Mz C fe CE):=by
 refine F.ok xQ À;obtain⟨b,g,rfl,hb,hg,k⟩:=h;refine⟨_,aB (cq 2 xQ.nd (c6 f7 Ò tL PySem.boot_len (ae ğ ag)))
  (aB (cq 3 xQ.nd (O5 ğ (rq ğ)))
  (aB (tW (i:=4) (own:=[("entry",5)]) (te:=ql (U7 K) (bg (fY K (ay 5) "row") du)) rfl xQ.nd rfl rfl Ò (eV ë) É
   (λ_ _ _ _ _=>dv 5 xQ.nd) Ó (λ_ _ _ _ _=>c6 f7 Ò tL PySem.boot_len (ae (bj Ãx rfl) ag)))
  (aD (aZ (eB (own:=[("number",6),("length",7)]) (g:=g2 K 6 7) (tt:=Hg (mQ (bQ nW Èf ŗ)) (Dd (tB Ŗ) (mQ (bQ (gv λi j=>.bl (decide (i>j))) Èf ŗ)))) (te:=ay 6) rfl xQ.nd
   (ku Ò tE ϣ) É
   (λ_ _ _ _ _=>iB 6 7 xQ.nd)
   (λ_ _ _ _ _=>o7 (PW.pt (pw_or (cI hJ Åf è (bT _)) (pw_or1 (PW.pt (pw_and (jr õ) (pw_and1 (cI u4 Åf è (bT _))))))))) (λ_ _ _ _ _=>pv 6)))))),?_⟩
 have hf:=hb.e.c8;refine⟨_,rfl,bo hg.ga TC.cG TC.vz (vy g) ⟨g.l,_,rfl,.inl (aa.of hg.fl),?_⟩⟩;dsimp only;rw[aA];refine Ri g.above g.below (λK q=>⟨_,rfl,bo hg.ga TC.cG TC.R3 (RZ g) q⟩) (λ_ K q=>⟨_,rfl,bo hg.ga TC.cG TC.R4 (R1 g) q⟩) ?_;refine⟨_,rfl,bo hb.a TB.1 (TB.2 _ Â) (U3 b) ⟨b.el,rfl,⟨_,aa.of hb.e.a⟩,λD hD=>gy (K:=K) (a:=b.el) (xs:=b.es.map λe=>V.ref e.a) (ft H D λi=>((mf Ú i:Nat):Int)) Áy (λi H' _ f=>aa.of (f.1 _ _ hb.e.a)) ĉ (λH1 f=>?_)⟩⟩
 ·obtain⟨e,he,rfl⟩:=iu hi;have dY:=(bH.mp he).1;have hl:=(hb.e.l e (bY he)).same f.1;refine⟨rfl,eJ ⟨_,rfl,bo (B0 hl) TE.1 (TE.2 _ Â) (BZ e) ⟨e.rw,_,rfl,.inl (aa.of (B1 hl)),?_⟩⟩⟩;refine ft.step hD Ä f ĸ ?_;unfold mf;simp_all
 ·have hd:=f.2;rw[aA] at hd;have s1:=f.1;refine⟨_,rfl,D,_,rfl,aa.of hd,λD2 cE=>lj (K:=K) (a:=D) (xs:=iv ((List.range b.es.length).map λi=>((mf Ú i:Nat):Int))) (lx H1 D2 (zN Ú g.above g.below g.flags.length)) (lx.zero cE) (λi H' _ f=>aa.of (f.1 _ _ hd)) Ág Åv⟩
  ·have dY:=(bH.mp hi).1;rw[eX,aA,gX] at dY;have ev:v=.int ((mf Ú i:Nat):Int):=by
    simp_all
   subst ev;have s3:ai H' (Ϡ (.tup [.int (i:Nat),.int ((mf Ú i:Nat):Int)])):=aK hT;refine ä;generalize upd H' Tt (.tup [.int (i:Nat),.int ((mf Ú i:Nat):Int)])=H4 at s3;refine or_val (decide (mf Ú i=g.flags.length)) ((g.above||g.below)&&decide (g.flags.length<mf Ú i)) (λK q=>⟨_,rfl,_,rfl,rfl,_,rfl,by rw[lK];exact q⟩)
    (λ_ K q=>and_val (g.above||g.below) (decide (g.flags.length<mf Ú i)) (λK q=>⟨_,rfl,_,rfl,q⟩) (λ_ K q=>⟨_,rfl,_,rfl,_,_,rfl,rfl,_,rfl,?_⟩) q) (a9 Í Í)
   ·simp_all
   ·exact⟨_,rfl,f.yes cE Ä s3 hc⟩
   ·exact f.no s3 hc
  ·have h3:=f.2;rw[eX,aA,gX] at h3;refine k H3 D2 ⟨s1.trans f.1,s1.free cE,?_⟩;rw[h3];unfold qP cg.m;simp
end
def gV(l:LN):Nat:=l.foldl (λa b=>a*b) 1
inductive U8(vs:aq)(H:Hp)(Q:VK)(E':XK):Prop
 |mk (p:Addr) (l:LN) (_:vs=[.ref p]) (_:H p=some (.lst Çl)) (_:(∀n∈l,n≤100000)) (_:Q (.int ((gV l:Nat):Int)) H)
def sG(s:Nat):LN:=if s=2 then [0,1] else [s]
inductive U9(C:Cs)(vs:aq)(H:Hp)(Q:VK)(E':XK):Prop
 |mk (p:eK) (_:vs=[.ref p.a]) (_:Lies H Ác) (_:∀H' q,n9 H H' q (.lst (iv (nv Çi)))→Q Èh H')
section
variable{P:Pg}{w:Wd}{K:FR}{mg:MG}{base:Heap}{CK CL CS N CV CP CB CE fe:Addr}{C:Cs}
def FB:bC ["numbers","whole","number"] ["numbers"] (a7 J7):=cu
def aiV(F:br K "product" "product" J7 f fd):Ê aE 1 f fd ["numbers"] U8:=by
 refine F.ok FB À;obtain⟨p,l,rfl,hp,hl,k⟩:=h;refine⟨_,aB (cq 1 FB.nd bh)
  (aB (Š Åa (dv 2 FB.nd) (aD (cq 1 FB.nd (eP Zo á è))))
  (aD (aZ á))),?_⟩
 refine⟨_,rfl,p,rfl,⟨_,aa.of hp⟩,wD (K:=K) (a:=p) (xs:=iv (nv l)) (λi σ H'=>∃v,σ=[some Ģ,some (.int ((gV (l.take i):Nat):Int)),v]∧H'=H) ⟨none,rfl,rfl⟩ (λi σ H' _ ⟨_,_,e⟩=>by rw[e];exact aa.of hp) ?_ ?_⟩
 ·rintro i x σ H' hi ⟨v,rfl,rfl⟩;obtain⟨z,hz,rfl⟩:=nh hi;have qt:=hl z (bY hz);refine⟨_,rfl,_,rfl,_,_,rfl,rfl,.inr ⟨by omega,by omega⟩,some (.int ((z:Nat):Int)),?_,rfl⟩;rw[take_snoc hz];unfold gV;simp
 ·rintro σ H' ⟨v,rfl,rfl⟩;refine Ď;simp_all
def aiW:bC ["plate"] ["plate"] (a7 J9):=cu
def aiX(F:br K "sides_of" "sides_of" J9 f fd)(T:lW K C)(cF:Cn mg "FRONT" Ň)(cB:Cn mg "BEHIND" Ŝ)(cU:Cn mg "UNKNOWN_SIDE" (.int 2)):Ê aE 1 f fd ["plate"] (U9 C):=by
 refine F.ok aiW À;obtain⟨p,rfl,hp,k⟩:=h;refine⟨_,aD (aZ (rB (cI hJ ë (b7 cU) (bT _)) (eG (ae (b7 cF) Ϯ)) (eG Æp))),?_⟩;refine⟨_,rfl,bo hp.pl T.cP T.Kk (RY p) ĝ⟩;rw[show V.int 2=V.int ((2:Nat):Int) from rfl,lK];have k:=k;unfold sG at k;refine a9 Í Í
 ·rw[af Ç] at k;exact⟨by show 2≤sizeLine;decide,λq hq=>k _ q ⟨aK hq,hq,ao⟩⟩
 ·rw[ah Ç] at k;exact⟨_,rfl,bo hp.pl T.cP T.Kk (RY p) ⟨by show 1≤sizeLine;decide,λq hq=>k _ q ⟨aK hq,hq,ao⟩⟩⟩
end
def oH(rows:bq)(c:LN):bq:=rows.flatMap λrow=>c.map λn=>row++[n]
def kJ(cs:bq):bq:=cs.foldl oH [[]]
def uH(cs:bq):bq:=if cs.contains []=true then [] else kJ cs
theorem aiY(l:LN)(a:Nat):l.foldl (λa b=>a*b) a=a*gV l:=by
 induction l generalizing a with
 |nil=>simp[gV]
 |cons x l ih=>
  unfold gV;grind
def MA(a b:LN):gV (a++b)=gV a*gV b:=by
 rw[←aiY];unfold gV;simp
theorem aiZ(h:∀n∈l,1≤n):1≤gV l:=by
 induction l with
 |nil=>exact bO _
 |cons x l ih=>
  have h1:=h x Â;have h2:=ih λn hn=>h n (aN _ hn);show 1≤gV ([x]++l);rw[MA];have e:gV [x]=x:=Nat.one_mul x;rw[e];exact Nat.mul_pos h1 h2
theorem MB(rows:bq)(c:LN):(oH rows c).length=rows.length*c.length:=by
 unfold oH;induction rows with
 |nil=>simp
 |cons r rows ih=>rw[CZ,mw,ih,aA,cZ,Nat.succ_mul,Nat.add_comm]
def FC(cs:bq)(c:LN):kJ (cs++[c])=oH (kJ cs) c:=by
 unfold kJ;simp
def Va(cs:bq):(kJ cs).length=gV (cs.map List.length):=by
 refine snoc_ind (P:=λcs=>(kJ cs).length=gV (cs.map List.length)) rfl Ár cs;rw[FC,MB,ih,bV,MA];congr 1;exact(Nat.one_mul _).symm
def ai0(h:∀n∈l,1≤n)(i:Nat):gV (l.take i)≤gV l:=by
 have h1:1≤gV (l.drop i):=aiZ λn hn=>h n (Xz hn);have h2:gV l=gV (l.take i)*gV (l.drop i):=by rw[←MA,OF]
 rw[h2];exact Nat.le_mul_of_pos_right _ h1
theorem ai1{H:Hp}{ls:List cK}:(∀x∈ls,H x.a=some Ż)→d9 H (ls.map cK.a) (ls.map λx=>nv x.ns):=by
 induction ls with
 |nil=>exact @λ_=>.nil
 |cons x ls ih=>
  intro h;exact .cons (h x Â) (ih λz hz=>h z (aN _ hz))
def MC(cs:bq):∀row∈kJ cs,row.length=cs.length:=by
 refine snoc_ind (P:=λcs=>∀row∈kJ cs,row.length=cs.length) (λrow h=>?_) (λl x ih row h=>?_) cs
 ·have:row=[]:=by simpa [kJ] using h
  rw[this];rfl
 ·rw[FC] at h;unfold oH at h;obtain⟨r,hr,h⟩:=j7.mp h;obtain⟨n,_,rfl⟩:=cb.mp h;rw[mw,ih r hr,mw];rfl
inductive Vb(vs:aq)(H:Hp)(Q:VK)(E':XK):Prop
 |mk (y:b9) (_:vs=[.ref y.a]) (_:aU H Æk) (_:y.ls.length≤100) (_:(∀x∈y.ls,x.ns.length≤100000)) (_:(y.m.contains []=false→gV Ų≤1024)) (_:∀H' z,ai H H'→b9.m z=uH y.m→aU H' (eQ z)→iY H (eQ z)→Q Äj H')
section
variable{P:Pg}{w:Wd}{K:FR}{mg:MG}{base:Heap}{CK CL CS N CV CP CB CE fe:Addr}{C:Cs}
def vU:bC ["choices","rows","choice","longer","row","number"] ["choices"] (a7 J8):=cu
inductive RwI(y:b9)(H:Hp)(i:Nat)(σ:L2.St)(H':Hp):Prop
 |mk (z:b9) (v2 v3 v4:Option V) (_:σ=[some Àn,some Äj,v2,v3,v4,none]) (_:ai H H') (_:aU H' (eQ z)) (_:iY H (eQ z)) (_:z.m=kJ ű)
inductive RwJ(y z:b9)(c:cK)(g:Addr)(H3 H:Hp)(j:Nat)(σ:L2.St)(H':Hp):Prop
 |mk (v4:Option V) (ls:List cK) (_:σ=[some Àn,some Äj,some (.ref c.a),some (.ref g),v4,none]) (_:ai H3 H') (_:aU H' (eQ ⟨g,ls⟩)) (_:(∀x∈ls,x.a≠g)) (_:(∀x∈ls,iY H (lsN x))) (_:ls.map cK.ns=oH (z.m.take j) c.ns)
def ai4{f:Addr}{fd:FD}(F:br K "all_rows" "all_rows" J8 f fd):Ê aE 1 f fd ["choices"] Vb:=by
 refine F.ok vU À;obtain⟨y,rfl,hy,UF,rL,gO,k⟩:=h;have hu:A.units+3+128<cLine:=by have:=hr.un;exact oQ Â this
 refine⟨_,aB (dq (cI (Iy hu) ĳ Ù (by with_unfolding_all rfl)) (aD (aZ ĳ)) d7)
  (aB (cq 1 vU.nd (eG Äh))
  (aB (Š Åa (dv 2 vU.nd) (aB (cq 3 vU.nd ĳ)
   (aB (Š Æi (dv 4 vU.nd) (aD (rE (rK PySem.F.plainAttrs_list PySem.F.slot_list_extend PySem.F.type_list_extend P0 õ (ae
    (eB (own:=[("number",5)]) (te:=bQ P2 Ãi (yx Èd)) rfl vU.nd (eV è) É
     (λ_ _ _ _ _=>dv 5 vU.nd) Ó (λ_ _ _ _ _=>eP aag ı (eG Ť))) ag)))))
   (aD (cq 1 vU.nd õ)))))
  (aD (aZ á)))),?_⟩
 have pQ:=jC hy;refine⟨dQ _,λl ud=>?_⟩;have s1:ai H (Ϛ à):=aK ud;have je:(Ϛ à) l=some à:=ao;generalize upd H l à=H1 at s1 je;have ai5:=ai1 λx hx=>s1 _ _ (l6 hy hx);have ai6:H1 y.a=some (.lst ((y.ls.map cK.a).map V.ref)):=by
  rw[cO];exact s1 _ _ pQ
 refine⟨_,rfl,y.a,_,_,.list [],rfl,aa.of ai6,UP ai5,.lst (aa.of je) .nil,λd hd=>?_,rfl,_,rfl,?_⟩
 ·obtain⟨x,_,rfl⟩:=cb.mp hd;exact shaped_ints x
 rw[any_empty];have ko:(y.ls.map λx=>nv x.ns).contains []=y.m.contains []:=by
  rw[oP,C0,C0];unfold b9.m;simp
 rw[ko];refine a9 Í Í
 ·refine⟨dQ _,λp hp=>?_⟩;refine k _ ⟨p,[]⟩ (s1.trans (aK hp)) ?_ (zK ao Â) (BB (s1.free hp) Â);unfold uH;rw[af hc];rfl
 have hc:y.m.contains []=false:=by simpa using hc
 have ai7:=gO hc;have ai8:∀n∈y.m.map List.length,1≤n:=λn hn=>by
  grind
 have E5:∀i,(kJ ű).length≤1024:=λi=>by
  rw[Va,List.map_take];exact gW (ai0 ai8 i) ai7
 have ek:uH y.m=kJ y.m:=by unfold uH;rw[ah (by assumption)]
 rw[ek] at k;refine⟨dQ _,λe he=>⟨by show 1≤sizeLine;decide,λr sC=>?_⟩⟩;have hre:r≠e:=λz=>by rw[z,ao] at sC;cases sC
 have s2:ai H1 (upd (upd H1 e à) r (.lst [.ref e])):=(aK he).trans (aK sC);have Vc:aU (upd (upd H1 e à) r (.lst [.ref e])) (eQ ⟨r,[⟨e,[]⟩]⟩):=zK ao λx hx=>by
  obtain rfl:x=_:=by simpa using hx
  rw[au hre.symm,ao];rfl
 generalize upd (upd H1 e à) r (.lst [.ref e])=H2 at s2 Vc;have eY:=s1.trans s2;refine⟨_,rfl,y.a,rfl,⟨_,aa.of (eY _ _ pQ)⟩,wD (K:=K) (a:=y.a) (xs:=y.ls.map λx=>V.ref x.a) (RwI y H)
  ⟨⟨r,[⟨e,[]⟩]⟩,none,none,none,rfl,eY,Vc,BB (s1.free ((aK he).free sC)) Áq,rfl⟩ (λi σ H' _ h=>(by obtain⟨_,_,_,_,_,s3⟩:=h;exact aa.of (s3 _ _ pQ))) ?_ ?_⟩
 ·obtain rfl:x=_:=by simpa using hx
  exact λw hw=>(by simp only[lsN,nJ] at hw;subst hw;exact s1.free he)
 ·rintro i x σ H3 hi ⟨z,v2,v3,v4,rfl,s3,hz,B4,md⟩;obtain⟨c,t7,rfl⟩:=iu hi;have yJ:=bY t7;have Es:=s3 _ _ (l6 hy yJ);have gE:=rL c yJ;have qQ:y.m[i]? =some c.ns:=by unfold b9.m;rw[bX,t7];rfl
  have Vd:kJ (y.m.take (i+1))=oH z.m c.ns:=by rw[take_snoc qQ,FC,md]
  have AJ:=E5 (i+1);rw[Vd] at AJ;refine⟨dQ _,λg MD=>?_⟩;have s4:ai H3 (upd H3 g à):=aK MD;have hgg:(upd H3 g à) g=some à:=ao;refine⟨_,rfl,z.a,rfl,⟨_,aa.of (s4 _ _ (jC hz))⟩,wD (K:=K) (a:=z.a) (xs:=z.ls.map λx=>V.ref x.a) (RwJ y z c g H3 H)
   ⟨v4,[],rfl,s4,zK hgg Â,by simp,by simp,by rw[List.take_zero];rfl⟩ (λj σ H' _ h=>(by obtain⟨_,_,_,s5⟩:=h;exact aa.of (s5 _ _ (jC hz)))) ?_ ?_⟩
  ·rintro j x σ H4 hj ⟨v4,ls,rfl,s5,FE,y6,Ve,FF⟩;obtain⟨r,Vf,rfl⟩:=iu hj;have vJ:=bY Vf;have ap8:r.ns.length≤1000:=by
    have h1:r.ns∈z.m:=by unfold b9.m;exact cb.mpr ⟨r,vJ,rfl⟩
    rw[md] at h1;have h2:=MC _ _ h1;grind
   have E8:=s5 _ _ (l6 hz vJ);have Vg:=s5 _ _ Es;have Vh:=jC FE;refine⟨_,rfl,.inl ⟨rfl,_,aa.of Vh⟩,_,rfl,c.a,rfl,⟨_,aa.of Vg⟩,λD hD=>gy (K:=K) (a:=c.a) (xs:=iv (nv c.ns)) (jj H4 D λi=>r.ns++[c.ns.getD i 0]) ć (λi H' _ f=>aa.of (f.same _ _ Vg)) (λn v H' hi f=>?_) (λH5 f=>?_)⟩
   ·obtain⟨m,hm,rfl⟩:=nh hi;have zy:=(bH.mp hm).1;refine⟨rfl,eJ ⟨_,rfl,_,rfl,(by show 1≤sizeLine;decide),λq hq=>⟨r.a,q,_,_,rfl,rfl,(aK hq) _ _ (f.same _ _ E8),ao,?_,λq2 xg=>?_⟩⟩⟩
    ·rw[eX,jB];exact sY (gQ (by grind))
    ·refine jj.step hD Ä f ((aK hq).trans (aK xg)) ((aK hq).free xg) ?_;rw[ao,getD_at hm];simp
   ·obtain⟨d,hda,s6,Vi,ly,IR⟩:=jj.end hD f;rw[eX,jB] at Vi;have hg5:=s6 _ _ Vh;have sv:∀x∈d.ls,x.a≠g:=λx hx z=>by
     have h1:=IR (x.a,_) (by unfold eQ;exact aN _ (j7.mpr ⟨x,hx,by simp[lsN];rfl⟩));simp_all
    have ajd:d.m=c.ns.map λn=>r.ns++[n]:=by
     rw[Vi];exact vN (l:=c.ns) (g:=λn=>r.ns++[n]) (d:=0)
    have et:oH (z.m.take (j+1)) c.ns=ls.map cK.ns++d.m:=by
     have e1:z.m[j]? =some r.ns:=by unfold b9.m;rw[bX,Vf];rfl
     rw[take_snoc e1,FF,ajd];unfold oH;simp
    refine⟨g,D,_,_,rfl,rfl,hg5,(by rw[←hda];exact jC ly),?_,_,ls++d.ls,rfl,fh (s5.trans s6) MD,zK ?_ ?_,?_,?_,?_⟩
    ·have h1:=cz List.length et;rw[mw,aA,iw] at h1;have h2:(oH (z.m.take (j+1)) c.ns).length≤1024:=by
      rw[MB];rw[MB] at AJ;refine gW (Nat.mul_le_mul_right _ ?_) AJ;grind
     rw[aA,aA];exact sY (gQ (by grind))
    ·rw[ao,bV]
    ·intro x hx;rcases gK.mp hx with hx|hx
     ·rw[au (y6 x hx)];exact s6 _ _ (l6 FE hx)
     ·rw[au (sv x hx)];exact l6 ly hx
    ·grind
    ·intro x hx;rcases gK.mp hx with hx|hx
     ·simp_all
     ·exact λw hw=>(s3.trans s5).free (IR w (by unfold eQ;exact aN _ (j7.mpr ⟨x,hx,hw⟩)))
    ·rw[bV,et];rfl
  ·rintro σ H4 ⟨v4,ls,rfl,s5,FE,y6,Ve,FF⟩;refine⟨_,rfl,⟨g,ls⟩,_,_,_,rfl,s3.trans s5,FE,BB (s3.free MD) Ve,?_⟩;rw[aA,←iw,mx] at FF;rw[Vd];exact FF
 ·rintro σ H3 ⟨z,v2,v3,v4,rfl,s3,hz,B4,md⟩;rw[aA,←iw,mx] at md;exact⟨_,rfl,k H3 z s3 md hz B4⟩
end
theorem aje(sames:LN)(l:cf):∀(st:gZ)(x:LN×gZ),nB sames st l=some x→x.1.length=l.length:=by
 induction l with
 |nil=>
  intro st x h;unfold nB at h;rw[←aO h];rfl
 |cons p r ih=>
  intro st x h;unfold nB at h;split at h
  ·cases h
  ·split at h
   ·cases h
   ·rename_i y e;rw[←aO h];show y.1.length+1=r.length+1;rw[ih _ _ e]
theorem Vj(sames:LN)(l:List cf):∀(st:gZ)(x:bq×gZ),l9 sames st l=some x→x.1.map List.length=l.map List.length:=by
 induction l with
 |nil=>
  intro st x h;unfold l9 at h;rw[←aO h];rfl
 |cons p r ih=>
  intro st x h;unfold l9 at h;split at h
  ·cases h
  ·rename_i z ez;split at h
   ·cases h
   ·rename_i y e;rw[←aO h,aY,aY,ih _ _ e,aje sames p _ _ ez]
def Vk{ms:aF}{rows hs:bq}(h:nD ms rows=some (some hs)):hs.map List.length=rows.map List.length:=by
 unfold nD at h;split at h
 ·simp_all
 ·split at h
  ·simp_all
  ·cases e:l9 ĥ Æc Ãg with
   |none=>simp_all
   |some x=>
    rw[e] at h;have h:=aO (aO h);rw[←h,Vj _ _ _ _ e];unfold ma fw;rw[cO];apply wm;intro i;rw[bX,bX,XM,bX];cases er:rows[i]? with
    |none=>simp_all
    |some r=>
     rw[GV.mpr (show rows[i]? =some (r,r).1∧rows[i]? =some (r,r).2 from⟨er,er⟩)];unfold pP;simp
def ajf(cs:bq):∀nums∈kJ cs,∀(i n:Nat)(c:LN),nums[i]? =some n→cs[i]? =some c→n∈c:=by
 refine snoc_ind (P:=λcs=>∀nums∈kJ cs,∀(i n:Nat)(c:LN),nums[i]? =some n→cs[i]? =some c→n∈c) (λnums h i n c h1 h2=>?_) (λl x ih nums h i n c h1 h2=>?_) cs
 ·simp at h2
 ·rw[FC] at h;unfold oH at h;obtain⟨r,hr,h⟩:=j7.mp h;obtain⟨m,hm,rfl⟩:=cb.mp h;have E5:=MC l r hr;by_cases hi:i<l.length
  ·rw[Gu Ä] at h1;rw[Gu hi] at h2;exact ih r hr i n c h1 h2
  ·rw[Oj Ä] at h1;rw[Oj Ä] at h2;have e0:i-l.length=0:=by
    have:=(bH.mp h2).1;simpa using this
   rw[E5,e0] at h1;rw[e0] at h2;cases h1;cases h2;exact hm
def ajg{hs rows:bq}(e:hs.map List.length=rows.map List.length){i:Nat}{h r:LN}(h1:hs[i]? =some h)(h2:rows[i]? =some r):h.length=r.length:=by
 have:=cz (λl=>l[i]?) e;simp only[bX,h1,h2] at this;simpa using this
def qR{α:Type}(H1:Hp)(D:Addr)(l:List α)(q:α→Bool)(g:α→V)(i:Nat)(H:Hp):Prop:=ai H1 H∧H D=some (.lst (((l.take i).filter q).map g))
def qR.zero{α:Type}{H1:Hp}{D:Addr}{l:List α}{q:α→Bool}{g:α→V}(hD:H1 D=none):qR H1 D l q g 0 Ĉ:=⟨aK hD,ao⟩
def qR.yes{α:Type}{H1 H H4:Hp}{D:Addr}{l:List α}{q:α→Bool}{g:α→V}{i:Nat}{x:α}{v:V}(hD:H1 D=none)(hi:i<1000000)(f:qR H1 D l q g i H)(s:ai H H4)(hx:l[i]? =some x)(h:q x=true)(hv:v=g x):jJ D (qR H1 D l q g (i+1)) v H4:=by
 subst hv;refine⟨_,s _ _ f.2,?_,fh (f.1.trans s) hD,?_⟩
 ·rw[aA];have:=GO q (l.take i);rw[mv] at this;exact gQ Ä
 ·rw[ao,EL hx,af h,bV];rfl
def qR.no(f:qR H1 D l q g i H)(s:ai H H4)(hx:l[i]? =some x)(h:¬q x=true):qR H1 D l q g (i+1) H4:=by
 refine⟨f.1.trans s,?_⟩;rw[EL hx,ah h,kY];exact s _ _ f.2
theorem ajh{α β:Type}{q:α→Option β}{l:List α}{i:Nat}{x:α}(h:l[i]? =some x):(l.take (i+1)).filterMap q=(l.take i).filterMap q++(match q x with|some y=>[y]|none=>[]):=by
 rw[take_snoc h,XG];congr 1;cases e:q x with
 |none=>simp[e]
 |some y=>simp[e]
structure pW where
 a:Addr
 dx:Addr
 nums:cK
 hs:b9
 sd:cK
def Vl(r:pW):List (Str×V):=[("entries",.ref r.nums.a),("hoists",.ref r.hs.a),("sides",.ref r.sd.a)]
def FG(CR:Addr)(r:pW):jg:=(r.a,.ins CR r.dx (Vl r))::(lsN r.nums++(eQ r.hs++lsN r.sd))
def Vm{CR:Addr}{r:pW}{p:Addr×HO→Prop}(h1:p (r.a,.ins CR r.dx (Vl r)))(h2:∀x∈lsN r.nums,p x)(h3:∀x∈eQ r.hs,p x)(h4:∀x∈lsN r.sd,p x):∀x∈FG CR r,p x:=λx hx=>by
 rcases bf.mp hx with rfl|hx
 ·exact h1
 ·grind
def pW.m(r:pW):LN×bq×LN:=(r.nums.ns,r.hs.m,r.sd.ns)
abbrev Views:=List (Nat×List bq)
def mh(ms:aF)(p:gi):Views:=(sG p.side).map λs=>(s,pO ms p.classes s p.ak)
def sI(Gp:Views)(iG:List iC)(hs:bq):LN:=(Gp.filter λv=>l7 hs iG v.2).map (·.1)
def jm(rows:bq)(nums:LN):bq:=nums.map λn=>rows.getD n []
def vV(ms:aF)(rows:bq)(iG:List iC)(Gp:Views)(nums:LN):Option (LN×bq×LN):=match nD ms (jm rows nums) with
 |some (some hs)=>if sI Gp iG hs=[] then none else some (nums,hs,sI Gp iG hs)
 |_=>none
def kO(rows:bq)(iG:List iC):bq:=iG.map (qP rows)
def sJ(rows:bq)(iG:List iC):Nat:=gV ((kO rows iG).map List.length)
def uI(ms:aF)(rows:bq)(p:gi):List (LN×bq×LN):=(uH (kO rows p.ak)).filterMap (vV ms rows p.ak (mh ms p))
def B5(CR:Addr)(H:Hp)(q:Addr)(rs:List pW):Prop:=H q=some (.lst (rs.map λr=>V.ref r.a))∧∀r∈rs,aU H (FG CR r)
inductive Vn(C:Cs)(CL CK fe CE CR CT:Addr)(vs:aq)(H:Hp)(Q:VK)(E:XK):Prop
 |mk (l:uj) (b:pV) (p:eK) (_:vs=[.ref l.a,.ref b.a,.ref p.a]) (_:uF CL CK H l) (_:xP fe CE H b) (_:vO C H p) (_:Fy Ï Ú) (_:(sJ Ú p.m.ak≤1024→∀H' q rs,ai H H'→rs.map pW.m=uI Ï Ú p.m→B5 CR H' q rs→Q Èh H')) (_:(1024<sJ Ú p.m.ak→No E CT H))
section
variable{P:Pg}{w:Wd}{K:FR}{mg:MG}{base:Heap}{CK CL CS N CV CP CB CE fe CR CT:Addr}{C:Cs}
def mi:bC ["locker","book","plate","choices","glimpse","choice","views","side","readings","numbers","hoists","number","sides","view"] ["locker","book","plate"] (a7 J5):=cu
inductive Vo(CR:Addr)(l:uj)(b:pV)(p:eK)(y:b9)(D3 r:Addr)(H4:Hp)(z:b9)(i:Nat)(σ:L2.St)(H':Hp):Prop
 |mk (v9 x8 xi:Option V) (rs:List pW) (_:σ=[some (.ref l.a),some Æx,some Âq,some Àn,none,none,some (.ref D3),none,some Ãl,v9,x8,none,xi,none]) (_:ai H4 H') (_:aU H' (eQ z)) (_:H' r=some (.lst (rs.map λx=>V.ref x.a))) (_:(∀x∈rs,aU H' (FG CR x)∧∀y∈FG CR x,y.1≠r)) (_:rs.length≤i) (_:rs.map pW.m=(z.m.take i).filterMap (vV Ï Ú ï ŵ))
def aji{f:Addr}{fd:FD}(F:br K "readings_of" "readings_of" J5 f fd)(X:ϊ "TooMuchInDoubt" CT N)(TC:lW K C)(TL:lu K CL ["name","kinds"])(TB:lu K fe ["name","entries"])(TE:lu K CE ["row","meaning"])(TV:lu K CV ["side","glimpses"])(tL:mg "len"=none)(cM:Cn mg "MOST_IN_DOUBT" (.int 1024))(dI:Å 1 "entries_in_doubt" ["book","glimpse"] (Mz C fe CE)) (dP:Å 1 "product" ["numbers"] U8) (dV:Å 4 "view_of" ["kinds","plate","side"] (Ls C CK CV)) (dS:Å 1 "sides_of" ["plate"] (U9 C))(dA:Å 1 "all_rows" ["choices"] Vb) (dD:Å 4 "display_told" ["kinds","rows"] (Fp CK)) (dF:Å 3 "fits" ["hoists","plate","view"] (LB C CV)) (dR:ÿ "Reading" CR ["entries","hoists","sides"]):
  a8 P w K mg base ē 5 f fd ["locker","book","plate"] (Vn C CL CK fe CE CR CT):=by
 refine F.qw mi À;obtain⟨l,b,p,rfl,hL,hB,hP,uG,k1,k2⟩:=h;refine⟨_,aB (tW (i:=3) (own:=[("glimpse",4)]) (te:=gY (Mz C fe CE) [] E0 (bg ϖ (bg Ãi du))) rfl mi.nd rfl rfl Ò (eV Ài) É
   (λ_ _ _ _ _=>dv 4 mi.nd) Ó (λ_ _ _ _ _=>bz dI (ae á ϣ)))
  (aB (dq (cI u4 (bz dP (ae (eB (own:=[("choice",5)]) (te:=ql (U7 K) Èd) rfl mi.nd (eV õ) É
   (λ_ _ _ _ _=>dv 5 mi.nd) Ó (λ_ _ _ _ _=>c6 f7 Ò tL PySem.boot_len Ť)) ag)) (b7 cM) (bT _)) Ì d7)
  (aB (tW (i:=6) (own:=[("side",7)]) (te:=gY (Ls C CK CV) [] E0 (bg (fY K ώ "kinds") (bg ŗ (bg Èf du)))) rfl mi.nd rfl rfl Ò (eV (bz dS ţ)) É
   (λ_ _ _ _ _=>dv 7 mi.nd) Ó (λ_ _ _ _ _=>bz dV (ae ë (ae è (ae Åf ag)))))
  (aB (cq 8 mi.nd ĳ)
  (aB (mO (QO w8) rfl (eV (bz dA Ĳ)) (dv 9 mi.nd)
   (aB (cq 10 mi.nd (bz dD (ae ë (ae (eB (own:=[("number",11)]) (te:=fY K (bQ ύ (fY K ϖ "entries") (ay 11)) "row") rfl mi.nd (eV (pv 9)) É
    (λ_ _ _ _ _=>dv 11 mi.nd) Ó (λ_ _ _ _ _=>bj (cA cQ ğ (pv 11) Õ) rfl)) ag))))
   (aB (cq 12 mi.nd (rB (nU (qg (pv 10))) ĳ (eB (own:=[("view",13)]) (tt:=mQ (gY (LB C CV) [] E0 (bg (ay 10) (bg ŗ (bg (ay 13) du))))) (te:=fY K (ay 13) "side") rfl mi.nd (eV Ãe) É
    (λ_ _ _ _ _=>dv 13 mi.nd) (λ_ _ _ _ _=>o7 (jr (bz dF (ae (pv 10) (ae è (ae (pv 13) ag)))))) (λ_ _ _ _ _=>bj (pv 13) rfl))))
   (aD (dq (cI (A9 hr.units) (pv 12) ĳ (bT _)) (aD (rE (Ý (pv 8) (ae (pF dR hr (ae (pv 9) (ae (pv 10) (ae (pv 12) ag)))) ag)))) d7)))))
  (aD (aZ (pv 8))))))),?_⟩
 have hgf:=hP.c8;refine⟨_,rfl,bo hP.l.pl TC.cP TC.m5 Åh ⟨p.gl,rfl,⟨_,aa.of hP.l.gl⟩,λD hD=>gy (K:=K) (a:=p.gl) (xs:=p.ak.map λg=>V.ref g.a) (jj H D λi=>(kO Ú ï).getD i []) ć (λi H' _ f=>aa.of (f.same _ _ hP.l.gl)) (λi v H' hi f=>?_) (λH1 f=>?_)⟩⟩
 ·obtain⟨g,hg,rfl⟩:=iu hi;have dY:=(bH.mp hg).1;refine⟨rfl,eJ ⟨_,rfl,_,rfl,b,g,rfl,hB.same f.same,(hP.l.sub (bY hg)).same f.same,λH3 q n=>jj.step hD Ä f n.1 n.2.1 ?_⟩⟩;rw[n.2.2];unfold kO;simp_all
 obtain⟨y,eya,s1,qQ,hy,UF⟩:=jj.end hD f;subst eya;rw[aA] at qQ;have gE:(kO Ú ï).length=p.ak.length:=by
  unfold kO;simp
 have qQ:y.m=kO Ú ï:=by
  rw[qQ,←gE];have:=vN (l:=kO Ú ï) (g:=λx=>x) (d:=[]);simp_all
 have rL:y.ls.length=p.ak.length:=by rw[←iw,qQ,gE]
 have yJ:∀c∈y.m,c.length≤2048:=λc hc=>by
  rw[qQ] at hc;unfold kO at hc;obtain⟨g,_,rfl⟩:=cb.mp hc;unfold qP;have h1:=GO (zN Ú g.above g.below g.flags.length) (List.range (b.es.map bp.row).length);rw[gX,aA] at h1;have:=hB.e.c8;grind
 refine⟨_,rfl,y.a,rfl,⟨_,aa.of (jC hy)⟩,λD2 cE=>gy (K:=K) (a:=y.a) (xs:=y.ls.map λx=>V.ref x.a) (ft H1 D2 λi=>(((y.m.getD i []).length:Nat):Int)) (ft.zero cE) (λi H' _ f=>aa.of (f.1 _ _ (jC hy))) (λi v H' hi f2=>?_) (λH2 f2=>?_)⟩
 ·obtain⟨x,hx,rfl⟩:=iu hi;have dY:=(bH.mp hx).1;refine⟨rfl,eJ ⟨_,rfl,x.a,_,rfl,.inl (aa.of (f2.1 _ _ (l6 hy (bY hx)))),ft.step cE Ä f2 ĸ ?_⟩⟩;rw[eX,jB,BD hx]
 have s2:=s1.trans f2.1;have fA:=f2.2;rw[aA,←iw] at fA;have za:(List.range y.m.length).map (λi=>(((y.m.getD i []).length:Nat):Int))=nv Ų:=by
  unfold nv;rw[cO];exact vN (l:=y.m) (g:=λc=>((c.length:Nat):Int)) (d:=[])
 rw[za] at fA;have edd:sJ Ú p.m.ak=gV Ų:=by
  rw[qQ];rfl
 rw[edd] at k1 k2;refine⟨D2,_,rfl,fA,λn hn=>?_,_,_,rfl,rfl,_,rfl,a9 Í Í⟩
 ·grind
 ·have hc:1024<gV Ų:=by
   grind
  exact gG ((k2 hc).go s2)
 have hc:gV Ų≤1024:=by
  grind
 have k1:=k1 hc;have Vp:=hP.same s2;have l5:=hL.same s2;refine⟨_,rfl,p,rfl,Vp.l,λH3 q n3=>⟨q,rfl,⟨_,aa.of n3.2.2⟩,λD3 qO=>gy (K:=K) (a:=q) (xs:=iv (nv Çi)) (nj (pN CV) uu.a (λi v=>∀s,Çi[i]? =some s→v.side=s∧v.gs.map b9.m=pO Ï p.classes s ï) H3 D3) (cw.zero qO) (λi H' _ f=>aa.of (f.same _ _ n3.2.2)) (λi v H' hi f3=>?_) (λH4 f3=>?_)⟩⟩
 ·obtain⟨sd,sk,rfl⟩:=nh hi;have dY:=(bH.mp sk).1;have AI:(sG p.side).length≤2:=by
   unfold sG;grind
  have s3:=n3.1.trans f3.same;refine⟨rfl,eJ ⟨_,rfl,bo (By (l5.same s3).lies) TL.1 (TL.2 _ Â) (EC l) ⟨_,rfl,_,rfl,l.kl,l.kinds,p,sd,rfl,(l5.same s3).ks,Vp.same s3,λH5 v s5 e1 e2 lv fv=>?_⟩⟩⟩;refine nj.step qO Ä f3 s5 v (λs hs=>?_) lv fv;grind
 obtain⟨vs,HN,s3,ajl,Vq,hvL,hvF⟩:=nj.end f3;rw[eX,jB] at HN;have s4:=s2.trans (n3.1.trans s3);refine⟨dQ _,λr sC=>?_⟩;have s5:ai H4 (upd H4 r à):=aK sC;have zA:(upd H4 r à) r=some à:=ao;have aqb:∀b o,H4 b=some o→b≠r:=λb o e z=>by rw[z,sC] at e;cases e
 generalize upd H4 r à=H5 at s5 zA;have hy5:=(hy.same f2.1).same ((n3.1.trans s3).trans s5);refine⟨_,rfl,y,rfl,hy5,by omega,λx hx=>?_,λ_=>hc,λH6 z s6 md hz B4=>?_⟩
 ·have:=yJ x.ns (by unfold b9.m;exact cb.mpr ⟨x,hx,rfl⟩);omega
 have sr:z.a≠r:=λe=>by
  have h1:=B4 (z.a,_) (gu ..);grind
 have Vr:∀x∈eQ z,x.1≠r:=λx hx e=>by
  have h1:=B4 x hx;grind
 have s46:=s5.trans s6;have hr6:=s6 _ _ zA;have eR:uI Ï Ú p.m=z.m.filterMap (vV Ï Ú ï ŵ):=by
  rw[md,qQ];rfl
 rw[eR] at k1;have aqc:z.ls.length≤1024:=by
  rw[←iw,md];unfold uH;split
  ·simp
  ·rw[Va];omega
 refine⟨z.a,rfl,⟨_,aa.of (jC hz)⟩,wD (K:=K) (a:=z.a) (xs:=z.ls.map λx=>V.ref x.a) (Vo CR l b p y D3 r H4 z)
  ⟨none,none,none,[],rfl,s46,hz,hr6,by simp,bO _,rfl⟩ (λi σ H' _ h=>(by obtain⟨_,_,_,_,_,_,h⟩:=h;exact aa.of (jC h))) ?_ ?_⟩
 ·rintro i v σ H7 hi ⟨v9,x8,xi,rs,rfl,s7,FH,ME,xR,ajq,FI⟩;obtain⟨x,hx,rfl⟩:=iu hi;have gq:=bY hx;have dY:=(bH.mp hx).1;have Vs:x.ns∈z.m:=by unfold b9.m;exact cb.mpr ⟨x,gq,rfl⟩
  have hzi:z.m[i]? =some x.ns:=by unfold b9.m;rw[bX,hx];rfl
  have BR:x.ns∈kJ y.m:=by
   rw[md] at Vs;unfold uH at Vs;grind
  have nr:x.ns.length=p.ak.length:=by rw[MC _ _ BR,qQ,gE]
  have jO:=l6 FH gq;have Vt:∀(j n:Nat)(g:cg),x.ns[j]? =some n→p.ak[j]? =some g→∃e,b.es[n]? =some e∧g.flags.length≤e.row.length:=λj n g h1 h2=>by
   have h3:=ajf y.m x.ns BR j n (qP Ú g.m) h1 (by rw[qQ];unfold kO;rw[bX,bX,h2];rfl);unfold qP at h3;obtain⟨h4,h5⟩:=j3.mp h3;simp at h4;refine⟨b.es[n],dm h4,?_⟩;unfold zN mf at h5;rw[getD_map (dm h4)] at h5;have eg:g.m.flags.length=g.flags.length:=by unfold cg.m;rw[aA]
   grind
  have hes:∀n∈x.ns,∃e,b.es[n]? =some e:=λn hn=>by
   obtain⟨j,hj,e⟩:=qY hn;obtain⟨e',h',_⟩:=Vt j n p.ak[j] (by grind) (dm Ä);grind
  have FJ:=s4.trans s7;have hL7:=hL.same FJ;have hB7:=hB.same FJ;have hP7:=hP.same FJ;refine⟨_,rfl,bo (By hL7.lies) TL.1 (TL.2 _ Â) (EC l) ⟨_,rfl,x.a,rfl,⟨_,aa.of jO⟩,λD8 Fv=>gy (K:=K) (a:=x.a) (xs:=iv (nv x.ns)) (cw H7 D8 λi v ns=>∃e:bp,(∀n,x.ns[i]? =some n→b.es[n]? =some e)∧v=.ref e.rw∧ns=[]) (cw.zero Fv) (λi H' _ f=>aa.of (f.same _ _ jO)) (λj v H' hi f8=>?_) (λH8 f8=>?_)⟩⟩
  ·obtain⟨n,hn,rfl⟩:=nh hi;have u9:=(bH.mp hn).1;obtain⟨e,he⟩:=hes n (bY hn);have B6:=hB7.same f8.same;have j0:=B6.e.l e (bY he);refine⟨rfl,eJ ⟨_,rfl,bo B6.a TB.1 (TB.2 _ Â) (U3 b) ⟨_,rfl,b.el,_,(n:Int),.ref e.a,rfl,rfl,aa.of B6.e.a,fZ (by grind),bo (B0 j0) TE.1 (TE.2 _ Â) (BZ e) ?_⟩⟩⟩;refine f8.step Fv Ä ĸ ⟨e,λn' OZ=>?_,rfl,rfl⟩ aU.nil Â;grind
  obtain⟨ys,s8,hd8,Vu,fl⟩:=f8.end;obtain⟨bs,rfl,r8,_⟩:=xu (v:=λe:bp=>V.ref e.rw) (nd:=λ_=>[]) (R:=λi e=>∀n,x.ns[i]? =some n→b.es[n]? =some e) fl;rw[aA,eX,jB] at Vu;have Al:∀(j:Nat)(e:bp),bs[j]? =some e→∃n,x.ns[j]? =some n∧b.es[n]? =some e:=λj e he=>by
   have h1:=(bH.mp he).1;exact⟨x.ns[j]' Ä,dm _,r8 j e he _ (dm _)⟩
  have vo:∀e∈bs,e∈b.es:=λe he=>by
   obtain⟨j,hj,rfl⟩:=qY he;obtain⟨n,_,h2⟩:=Al j _ (dm hj);grind
  have MF:=FJ.trans s8;have MH:=hL.same MF;have B6:=hB.same MF;have hP8:=hP.same MF;have uq:=s8 _ _ ME;have e2m:(⟨D8,bs.map λe=>⟨e.rw,e.row⟩⟩:b9).m=jm Ú x.ns:=by
   unfold b9.m jm;rw[cO];refine E1 Vu λj e n h1 h2=>?_;grind
  have zM:∀iS∈jm Ú x.ns,iS∈b.es.map bp.row:=λiS h=>by
   rw[←e2m] at h;unfold b9.m at h;grind
  have hy2:LO H8 ⟨D8,bs.map λe=>⟨e.rw,e.row⟩⟩ l.kinds.length:=by
   refine⟨zK (by rw[cO];exact hd8) λw hw=>?_,by grind,λw hw=>?_,λw hw=>?_⟩
   all_goals obtain⟨e,he,rfl⟩:=cb.mp hw
   ·exact B1 (B6.e.l e (vo e he))
   ·have:=uG.short e.row (cb.mpr ⟨e,vo e he,rfl⟩);grind
   ·intro s hs;have:=uG.lt e.row (cb.mpr ⟨e,vo e he,rfl⟩) s hs;grind
  have fV:((⟨D8,bs.map λe=>⟨e.rw,e.row⟩⟩:b9).m.flatten).length≤1000:=by
   have h1:∀(L:bq),(∀w∈L,w.length≤8)→L.flatten.length≤8*L.length:=by
    intro L;induction L with
    |nil=>simp
    |cons a L ih=>
     grind
   have h2:=h1 (⟨D8,bs.map λe=>⟨e.rw,e.row⟩⟩:b9).m λw hw=>uG.short w (zM w (by grind));rw[iw] at h2;grind
  have Vv:=ajh (q:=vV Ï Ú ï ŵ) hzi;have qS:vV Ï Ú ï ŵ x.ns=match nD Ï (jm Ú x.ns) with
   |some (some hs)=>if sI ŵ ï hs=[] then none else some (x.ns,hs,sI ŵ ï hs)
   |_=>none:=rfl
  generalize vV Ï Ú ï ŵ x.ns=DU at Vv qS;have skip:DU=none→∀(H':Hp)(Vw Vx:Option V),ai H8 H'→Vo CR l b p y D3 r H4 z (i+1) [some (.ref l.a),some Æx,some Âq,some Àn,none,none,some (.ref D3),none,some Ãl,some (.ref x.a),Vw,none,Vx,none] H':=λen H' Vw Vx s'=>by
   refine⟨_,_,_,rs,rfl,(s7.trans s8).trans s',FH.same (s8.trans s'),s' _ _ uq,λw hw=>⟨(xR w hw).1.same (s8.trans s'),(xR w hw).2⟩,by omega,?_⟩;grind
  cases ed:nD Ï (jm Ú x.ns) with
  |none=>exact absurd ed (MH.sh _ λiS hr s hs=>uG.sg iS (zM iS hr) s hs)
  |some ro=>
  rw[ed] at qS;refine⟨l.kl,l.kinds,_,ro,rfl,MH.ks,MH.ms,hy2,fV,by grind,λhs eh H9 zz s9 MI xM fzz=>?_,λeh H9 s9=>?_⟩
  ·subst eh;have qS:DU=if sI ŵ ï hs=[] then none else some (x.ns,hs,sI ŵ ï hs):=qS;have Vy:∀w∈eQ zz,w.1≠r:=λw hw e=>by
    have h1:=fzz w hw;grind
   have hr9:=s9 _ _ uq;have evs:vs.map (λv=>(v.side,v.gs.map b9.m))=mh Ï p.m:=E1 HN λi v sd h1 h2=>by
    obtain⟨h3,h4⟩:=Vq i v h1 sd h2;rw[h3,h4];rfl
   have esf:sI ŵ ï hs=(vs.filter λv=>l7 hs ï Ϭ).map uu.side:=by
    rw[←evs];unfold sI;rw[yf,cO];rfl
   rw[esf] at qS;have Vz:=λv hv=>(hvL v hv).same ((s7.trans s8).trans s9);have VA:=((s7.trans s8).trans s9) _ _ ajl;have cJ:=Vk ed;have hhl:hs.length=p.ak.length:=by
    have:=cz List.length cJ;rw[aA,aA] at this;rw[this];unfold jm;grind
   have ajE:zz.ls.length=p.ak.length:=by rw[←iw,MI,hhl]
   refine⟨_,rfl,_,rfl,mZ ⟨_,rfl,D3,rfl,⟨_,aa.of VA⟩,λD9 FK=>gy (K:=K) (a:=D3) (xs:=vs.map λv=>V.ref v.a) (qR H9 D9 vs (λv=>l7 hs ï Ϭ) λv=>V.int (v.side:Nat)) (qR.zero FK) (λi H' _ f=>aa.of (f.1 _ _ VA)) (λj v H' hi f9=>?_) (λDv f9=>?_)⟩⟩
   ·obtain⟨v,hv,rfl⟩:=iu hi;have VB:=bY hv;have u9:=(bH.mp hv).1;have AI:(sG p.side).length≤2:=by
     unfold sG;grind
    obtain⟨sd,sk⟩:∃sd,Çi[j]? =some sd:=⟨_,dm Ä⟩;have yy:=(Vq j v hv sd sk).2;have ajF:v.gs.length=p.ak.length:=by
     have:=cz List.length yy;unfold pO at this;grind
    refine⟨rfl,_,rfl,_,rfl,_,rfl,zz,p,v,rfl,xM.same f9.1,(hP8.same s9).same f9.1,(Vz v VB).same f9.1,ajE,ajF,λm h g s h1 h2 h3=>?_,λH' s'=>Ď⟩
    ·have e1:hs[m]? =some h.ns:=by rw[←MI];unfold b9.m;rw[bX,h1];rfl
     have AJ:=(bH.mp h2).1;obtain⟨n,hn⟩:∃n,x.ns[m]? =some n:=⟨_,dm Ä⟩;obtain⟨e,he,hfe⟩:=Vt m n g hn h2;have e2:(jm Ú x.ns)[m]? =some e.row:=by
      unfold jm;grind
     have e3:=ajg cJ e1 e2;have e4:=uG.short e.row (cb.mpr ⟨e,bY he,rfl⟩);refine⟨?_,by omega,by omega⟩;have e5:Ϭ[m]? =some s.m:=by rw[bX,h3];rfl
     rw[yy] at e5;unfold pO at e5;rw[bX,bX,h2] at e5;have e5:=aO e5;have e6:=cz List.length e5;unfold xE cg.m at e6;rw[aA,aA,iw] at e6;omega
    ·rw[MI];refine a9 Í Í
     ·have yu:=(Vz v VB).same (f9.1.trans s');exact⟨_,rfl,bo (Tw yu) TV.1 (TV.2 _ Â) (ag4 v) (qR.yes FK Ä f9 s' hv hc rfl)⟩
     ·exact f9.no s' hv hc
   ·have nY:=f9.1;have zO:=f9.2;rw[aA,mx] at zO;have zO:Dv D9=some (.lst (iv (nv ((vs.filter λv=>l7 hs ï Ϭ).map uu.side)))):=by
     rw[zO];simp
    generalize ((vs.filter λv=>l7 hs ï Ϭ).map uu.side)=sds at qS zO;refine⟨_,rfl,dQ _,λe he=>⟨D9,e,_,rfl,rfl,aa.of ((Çq) _ _ zO),aa.of ao,_,rfl,a9 (λaQ=>?_) (λaQ=>?_)⟩⟩
    ·have aQ:¬sds=[]:=λz=>by
      grind
     rw[ah aQ] at qS;have kq:ai H8 (upd Dv e à):=(s9.trans nY).trans Çq;have VC:=(aK (o:=.lst []) he) _ _ zO;have VD:=(xM.same nY).same (aK (o:=.lst []) he);generalize upd Dv e à=A8 at kq VC VD;have MJ:=kq _ _ uq;refine⟨_,rfl,.inl ⟨rfl,_,aa.of MJ⟩,_,rfl,_,rfl,_,rfl,?_⟩;intro a dx ha iV aqf;refine⟨a,dx,[.ref x.a,.ref zz.a,.ref D9],rfl,rfl,ao,λH12 e12 e2=>Ŕ⟩;have eY:=λb o eb=>e2 b o (by rw[au (eN eb ha),au (eN eb iV)];exact eb) (eN eb ha);have ajI:=eY _ _ MJ;have VE:a≠r:=λz=>by rw[z,MJ] at ha;cases ha
     have hDr:D9≠r:=λz=>by rw[z,hr9] at FK;cases FK
     have FL:=s8.trans (kq.trans eY);have aqg:=FL _ _ jO;have VF:=λw hw=>Vr w (by unfold eQ;exact aN _ (j7.mpr ⟨x,gq,hw⟩));refine⟨r,_,_,rfl,rfl,ajI,by rw[aA];exact gQ Ä,_,_,_,rs++[⟨a,dx,x,zz,⟨D9,sds⟩⟩],rfl,fh (s7.trans FL) sC,λw hw=>?_,?_,λw hw=>?_,by grind,?_⟩
     ·rw[au (Vr w hw)];exact(FH.same FL) w hw
     ·rw[ao,bV];rfl
     ·rcases gK.mp hw with hw|hw
      ·exact⟨λq hq=>by rw[au ((xR w hw).2 q hq)];exact((xR w hw).1.same FL) q hq,(xR w hw).2⟩
      ·obtain rfl:w=_:=by simpa using hw
       refine⟨Vm (by show upd H12 r _ a=_;rw[au VE];exact e12) Ås Ås Ås,Vm VE VF Vy Ås⟩
       ·rw[au (VF q hq)];simp only[lsN,nJ] at hq;grind
       ·rw[au (Vy q hq)];exact(VD.same eY) q hq
       ·simp only[lsN,nJ] at hq;subst hq;rw[au hDr];exact eY _ _ VC
       ·simp only[lsN,nJ] at hq;grind
     ·rw[Vv,qS,bV,FI];show _++[(x.ns,zz.m,sds)]=_;grind
    ·have aQ:sds=[]:=by
      cases sds with
      |nil=>rfl
      |cons a b=>grind
     rw[af aQ] at qS;exact skip qS _ _ _ ((s9.trans nY).trans Çq)
  ·subst eh;refine⟨_,rfl,_,rfl,ky ⟨dQ _,λd hd=>⟨_,rfl,dQ _,λe he=>⟨d,e,_,rfl,rfl,aa.of ((Çq) _ _ ao),aa.of ao,_,rfl,mZ (skip qS _ _ _ (s9.trans ((aK hd).trans Çq)))⟩⟩⟩⟩
 ·rintro σ H7 ⟨v9,x8,xi,rs,rfl,s7,FH,ME,xR,ajq,FI⟩;rw[aA,←iw,mx] at FI;exact⟨_,rfl,k1 H7 r rs (s4.trans s7) FI ⟨ME,λx hx=>(xR x hx).1⟩⟩
end
structure FM(ms:aF):Prop where
 look:∀k∈ms,iI k.look
 mo:vS ms
 sh:∀rows,(∀r∈rows,∀s∈r,jD ms s=true)→nD ms rows≠none
structure FO(m:gi):Prop where
 xF:m.classes.length=16
 c8:m.ak.length≤100
 flags:∀g∈m.ak,g.flags.length≤100
 cells:∀g∈m.ak,∀s∈g.flags,s.2.length=16
structure B7 where
 a:Addr
 dx:Addr
 q:Addr
 l:uj
 b:pV
 p:eK
 rs:List pW
def VG(f:B7):List (Str×V):=[("locker",.ref f.l.a),("book",.ref f.b.a),("plate",.ref f.p.a),("readings",.ref f.q)]
def ajK(f:B7):(VG f).lookup ("readings":Str)=some (.ref f.q):=(fO È).trans ((fO È).trans ((fO È).trans ip))
structure Kn where
 C:Cs
 CL:Addr
 CK:Addr
 fe:Addr
 CE:Addr
 CR:Addr
 CF:Addr
structure MK(k:Kn)(H:Hp)(f:B7):Prop where
 a:H f.a=some (.ins k.CF f.dx (VG f))
 l:uF k.CL k.CK H f.l
 b:xP k.fe k.CE H f.b
 p:vO k.C H f.p
 rs:B5 k.CR H f.q f.rs
def B5.same{CR:Addr}{H H':Hp}{q:Addr}{rs:List pW}(h:B5 CR H q rs)(s:ai H H'):B5 CR H' q rs:=⟨s _ _ h.1,λr hr=>(h.2 r hr).same s⟩
structure VH(f:B7)(x:LI×aF)(y:LI×List (LN×LI))(m:gi):Prop where
 n:f.l.name=x.1
 k:f.l.kinds.map az.m=x.2
 b:f.b.m=y
 p:f.p.m=m
 r:f.rs.map pW.m=uI x.2 (y.2.map (·.1)) m
inductive VI(K:FR)(k:Kn)(CN CB mj CT:Addr)(vs:aq)(H:Hp)(Q:VK)(E:XK):Prop
 |mk (at_ ab ap:Addr) (t b p:LI) (_:vs=[.ref at_,.ref ab,.ref ap]) (_:ß at_ (iv t)) (_:ß ab (iv b)) (_:ß ap (iv p)) (_:t.length≤66000) (_:b.length≤66000) (_:p.length≤66000) (_:(∀x,fQ t=some x→FM x.2)) (_:(∀m,gR p=.ok m→FO m)) (_:(fQ t=none→No E CN H)) (_:∀x,fQ t=some x→(jX x.1 x.2 b=none→No E CB H)∧∀y,jX x.1 x.2 b=some y→(∀e,gR p=.error e→∀H' d,ai H H'→H' d=some (ub d (KA e.1 e.2))→E (.ref mj) (some d) H')∧∀m,gR p=.ok m→(1024<sJ (y.2.map (·.1)) m.ak→No E CT H)∧(sJ (y.2.map (·.1)) m.ak≤1024→∀H' f,ai H H'→MK k H' f→VH f x y m→Q (.ref f.a) H'))
section
variable{P:Pg}{w:Wd}{K:FR}{mg:MG}{base:Heap}{CN CB mj CT CF:Addr}{k:Kn}
def FP:bC ["t","b","p","locker","book","plate"] ["t","b","p"] (a7 Kb):=cu
def ajL(F:br K "found" "found" Kb f fd)(dL:Ć ē 6 "read_locker" ["text"] (SW K k.CL k.CK CN))(dB:Ć ē 6 "read_book" ["locker","text"] (U4 K k.CL k.CK CB k.CE k.fe))(dP:Ć ē 6 "read_plate" ["text"] (Sr K k.C mj))(dR:Ć ē 5 "readings_of" ["locker","book","plate"] (Vn k.C k.CL k.CK k.fe k.CE k.CR CT)) (dF:ÿ "Finding" k.CF ["locker","book","plate","readings"]):Ê ē 7 f fd ["t","b","p"] (VI K k CN CB mj CT):=by
 obtain⟨fL,fdL,GL,mL,kL,bL⟩:=dL;obtain⟨fB,fdB,GB,mB,kB,bB⟩:=dB;obtain⟨fP,Kh,GP,mP,kP,bP⟩:=dP;obtain⟨fR,fdR,GR,mR,kR,bR⟩:=dR;refine F.qw FP À;obtain⟨at_,ab,ap,t,b,p,rfl,hT,hB,hP,lT,lB,lP,gL,gP,k1,k2⟩:=h;have hr5:dw 5 _:=hr.mono Ø;refine⟨_,aB (cq 3 FP.nd (lN GL hr rfl mL kL bL .nil qv ñ))
  (aB (cq 4 FP.nd (lN GB hr rfl mB kB bB .nil qv (ae õ Œ)))
  (aB (cq 5 FP.nd (lN GP hr rfl mP kP bP .nil qv ţ))
  (aD (aZ (pF dF hr (ae õ (ae ı (ae Ãx (ae (lN GR hr5 rfl mR kR bR .nil qv (ae õ (ae ı Ť))) ag))))))))),?_⟩
 refine⟨_,rfl,at_,t,rfl,hT,lT,λx ex H1 l s1 e1 e2 hl lk=>?_,k1⟩;obtain⟨k2,k3⟩:=k2 x ex;have zZ:=gL x ex;have hL:uF k.CL k.CK H1 l:=by
  rw[←e2] at zZ;exact⟨hl,lk,λq hq=>zZ.look q.m (cb.mpr ⟨q,hq,rfl⟩),zZ.mo,zZ.sh⟩
 refine⟨_,rfl,_,rfl,l,ab,b,rfl,hL,s1.seq hB,lB,λy ey H2 bk s2 e3 hb rs=>?_,λen=>?_⟩
 ·rw[e1,e2] at ey;obtain⟨k3,k4⟩:=k3 y ey;have eY:=s1.trans s2;refine⟨_,rfl,ap,p,rfl,eY.seq hP,lP,λm em H3 pl s3 hp e4=>?_,λe ee H3 d s3 hd=>k3 e ee H3 d (eY.trans s3) hd⟩;obtain⟨k4,k5⟩:=k4 m em;have gp:=gP m em;have pG:=eY.trans s3;have VJ:vO k.C H3 pl:=by
   subst e4;exact⟨hp,gp.xF,by have:=gp.c8;unfold eK.m at this;rw[aA] at this;exact this,λg hg=>(by have:=gp.flags g.m (cb.mpr ⟨g,hg,rfl⟩);unfold cg.m at this;rw[aA] at this;exact this),λg hg s hs=>gp.cells g.m (cb.mpr ⟨g,hg,rfl⟩) s.m (cb.mpr ⟨s,hs,rfl⟩)⟩
  have ML:bk.es.map bp.row=y.2.map (·.1):=by
   rw[←e3];unfold pV.m;rw[cO];rfl
  refine⟨_,rfl,_,rfl,_,rfl,_,rfl,_,rfl,_,rfl,l,bk,pl,rfl,(hL.same s2).same s3,hb.same s3,VJ,rs,λhd H4 q rds s4 e5 hr4=>?_,λhd=>?_⟩
  ·rw[ML,e4] at hd;rw[ML,e2,e4] at e5;refine vD rfl λa dx H5 ha iV aQ e6 s5=>?_;refine k5 hd H5 ⟨a,dx,q,l,bk,pl,rds⟩ ((pG.trans s4).trans s5) ⟨e6,(((hL.same s2).same s3).same s4).same s5,((hb.same s3).same s4).same s5,(VJ.same s4).same s5,hr4.same s5⟩ ⟨e1,e2,e3,e4,e5⟩
  ·rw[ML,e4] at hd;exact(k4 hd).go pG
 ·rw[e1,e2] at en;exact(k2 en).go s1
end
def refusal(t b p:LI):Option Int:=if 65536<t.length∨65536<b.length∨65536<p.length then some (-2) else match fQ t with
 |none=>some (-6)
 |some x=>match jX x.1 x.2 b with
  |none=>some (-9)
  |some y=>match gR p with
   |.error _=>some (-8)
   |.ok m=>if 1024<sJ (y.2.map (·.1)) m.ak then some (-7) else none
def mx3(a b c:Nat):decide (yU (yU ((a:Nat):Int) ((b:Nat):Int)) ((c:Nat):Int)>65536)=decide (65536<a∨65536<b∨65536<c):=by
 rw[XO];unfold yU;split <;> split <;> omega
inductive VL(K:FR)(k:Kn)(q:Str)(fdOf:Addr→Value→FuncData)(Gq:Sp)(vs:aq)(H:Hp)(Q:VK)(E':XK):Prop
 |mk (at_ ab ap f:Addr) (t b p:LI) (_:vs=[.ref at_,.ref ab,.ref ap,.ref f]) (_:Be H f q fdOf) (_:ß at_ (iv t)) (_:ß ab (iv b)) (_:ß ap (iv p)) (_:t.length≤66000) (_:b.length≤66000) (_:p.length≤66000) (_:(∀x,fQ t=some x→FM x.2)) (_:(∀m,gR p=.ok m→FO m)) (_:(∀z,Ů p=some z→∀H' r,H' r=some (.lst [.int z])→Q Ãl H')) (_:(Ů p=none→∀x y m,fQ t=some x→jX x.1 x.2 b=some y→gR p=.ok m→∀H' f,ai H H'→MK k H' f→VH f x y m→Gq [.ref f.a] H' Q E0))
def VM{fdOf:Addr→Value→FuncData}(h:Be H f q fdOf)(s:ai H H'):Be H' f q fdOf:=let ⟨c,ij,a,b⟩:=h;⟨c,ij,s _ _ a,s _ _ b⟩
abbrev B8(n:Int):TS:=As (yx (bg (Dk (rU λi=>.int (-i)) (tC (.int n))) du))
section
variable{P:Pg}{w:Wd}{K:FR}{mg:MG}{base:Heap}{CN CB mj CT CF N1 N2 N3 N4:Addr}{k:Kn}{q:Str}{fdOf:Addr→Value→FuncData}{Gq:Sp}
def VN:bC ["t","b","p","told","finding"] ["t","b","p","told"] (a7 Ka):=cu
def ajQ(F:br K "answered" "answered" Ka f fd)(XN:ϊ "NoLocker" CN N1)(XB:ϊ "NoBook" CB N2)(XP:Ew K mg mj N3)(XT:ϊ "TooMuchInDoubt" CT N4)(nd:[CN,CB,mj,CT].Nodup)(tL:mg "len"=none)(tM:mg "max"=none)(cM:Cn mg "MOST_BYTES" (.int 65536))(dF:Ć ē 7 "found" ["t","b","p"] (VI K k CN CB mj CT)) (L:D4 P w K mg base 7 q fdOf ["finding"] Gq):Ê aE 8 f fd ["t","b","p","told"] (VL K k q fdOf Gq):=by
 obtain⟨fF,aqk,GF,mF,kF,bF⟩:=dF;refine F.ok VN À;obtain⟨at_,ab,ap,lf,t,b,p,rfl,VO,hT,hB,hP,lT,lB,lP,gL,gP,k1,k2⟩:=h;simp only[j4,bf,my,mz,not_or,not_false_eq_true,Ae,and_true] at nd;obtain⟨⟨n1,n2,n3⟩,⟨n4,n5⟩,n6⟩:=nd;refine⟨_,aB (dq (cI u4 (c6 (adE rfl) Ò tM Fe (ae Ă (ae ù (ae ċ ag)))) (b7 cM) (bT _)) (aD (aZ (eG (ae Ák ag)))) d7)
  (aB (aco ⟨rfl,rfl⟩ (acp (i:=4) VN.nd rfl (Or.inl rfl) GF hr rfl mF kF bF (ae Ù (ae á ţ)))
   (DS (ts:=B8 6) XN.c rfl XN.mC İ
   (DS (ts:=B8 9) XB.c rfl XB.mC İ
   (DS (ts:=B8 8) XP.c rfl XP.mC İ
   (DS (ts:=B8 7) XT.c rfl XT.mC İ aci)))))
  (aD (aZ (adC (i:=3) L hr rfl (Or.inl rfl) ϣ)))),?_⟩
 refine⟨_,rfl,at_,_,rfl,.inl hT,_,rfl,ab,_,rfl,.inl hB,_,rfl,ap,_,rfl,.inl hP,_,_,_,rfl,_,_,rfl,rfl,_,rfl,?_⟩;rw[eX,eX,eX,mx3];have er:Ů p=if 65536<t.length∨65536<b.length∨65536<p.length then some (-2) else match fQ t with
  |none=>some (-6)
  |some x=>match jX x.1 x.2 b with
   |none=>some (-9)
   |some y=>match gR p with
    |.error _=>some (-8)
    |.ok m=>if 1024<sJ (y.2.map (·.1)) m.ak then some (-7) else none:=rfl
 generalize refusal t b p=rf at er k1 k2;have Cq:∀(z n:Int),rf=some z→z= -n→∀(D:Ends)(σ:L2.St)(H':Hp),(∀r nZ,nZ r=some (.lst [.int z])→D.rt Ãl nZ)→B8 n D σ H':=λz n _ e2 D σ H' hD=>by
  subst e2;exact⟨_,rfl,(by show 1≤sizeLine;decide),λr hr=>hD r _ ao⟩
 refine a9 Í Í
 ·have hc:65536<t.length∨65536<b.length∨65536<p.length:=by simpa using hc
  rw[af hc] at er;exact Cq _ _ er rfl _ _ _ λr H' e=>k1 _ er H' r e
 ·have hc:¬(65536<t.length∨65536<b.length∨65536<p.length):=by simpa using hc
  rw[ah hc] at er;refine⟨_,rfl,_,rfl,_,rfl,at_,ab,ap,t,b,p,rfl,hT,hB,hP,lT,lB,lP,gL,gP,λen H1 s1=>?_,λx ex=>⟨λen H1 s1=>?_,λy ey=>⟨λe ee H1 d s1 hd=>?_,λm em=>⟨λhd H1 s1=>?_,λhd H1 fd s1 ok is=>?_⟩⟩⟩⟩
  ·rw[en] at er;exact⟨CN,N1,rfl,XN.c,λa H3 iV fl=>⟨λ_ H4 MM=>Cq _ _ er rfl _ _ _ λr H' e=>k1 _ er H' r e,λz=>absurd rfl z⟩⟩
  ·rw[ex] at er;dsimp only at er;rw[en] at er;exact⟨CB,N2,rfl,XB.c,λa H3 iV fl=>⟨λz=>absurd z.symm n1,λ_=>⟨λ_ H4 MM=>Cq _ _ er rfl _ _ _ λr H' e=>k1 _ er H' r e,λz=>absurd rfl z⟩⟩⟩
  ·rw[ex] at er;dsimp only at er;rw[ey] at er;dsimp only at er;rw[ee] at er;exact⟨mj,N3,rfl,XP.c,λa H3 iV fl=>⟨λz=>absurd z.symm n2,λ_=>⟨λz=>absurd z.symm n4,λ_=>⟨λ_ H4 MM=>Cq _ _ er rfl _ _ _ λr H' e=>k1 _ er H' r e,λz=>absurd rfl z⟩⟩⟩⟩
  ·rw[ex] at er;dsimp only at er;rw[ey] at er;dsimp only at er;rw[em] at er;dsimp only at er;rw[af hd] at er;exact⟨CT,N4,rfl,XT.c,λa H3 iV fl=>⟨λz=>absurd z.symm n3,λ_=>⟨λz=>absurd z.symm n5,λ_=>⟨λz=>absurd z.symm n6,λ_=>⟨λ_ H4 MM=>Cq _ _ er rfl _ _ _ λr H' e=>k1 _ er H' r e,λz=>absurd rfl z⟩⟩⟩⟩⟩
  ·rw[ex] at er;dsimp only at er;rw[ey] at er;dsimp only at er;rw[em] at er;dsimp only at er;rw[ah Ä] at er;exact⟨lf,rfl,VM VO s1,_,rfl,VM VO s1,rfl,k2 er x y m ex ey em H1 fd s1 ok is⟩
end
end HD
end
section
namespace L2
open PySem PySem.Spec PyProof.Rows
def br.okc{P:Pg}{w:Wd}{K:FR}{mg:MG}{base:Heap}{x cY:Str}{st:Stmt}{f:Addr}{fd:FD}{N ps:LS}{k:Nat}{sp:Sp}(F:Áb fd)(S:bC N ps Án)(tQ:∀(aG:Value)(A:Around)(outer:List Env)(s:Sh)(H:Hp)(vs:aq)(Q:VK)(E:XK),fd.code=aG→dw k ĺ→sp vs H Q E→
   ∃t,jI (ō N cY Án f aG A outer s H E).rD Äz t∧t {nx:=λ_ H'=>Q .aJ H',rt:=Q} ŕ H) (len:∀vs H Q E,sp vs H Q E→vs.length=ps.length:=by intro _ _ _ _ h;first|(cases h;subst_vars;rfl)|(repeat first|(obtain⟨rfl,_⟩:=h;rfl)|obtain⟨_,h⟩:=h)):Ê aE (k+1) f fd ps sp:=by
 obtain⟨oc,od,kV,iO,pm,an,aG,ct,mG,rfl,lk,j8⟩:=F.ex;refine HC lk j8 S len λA outer s H vs Q E hr jd=>?_;obtain⟨t,h,q⟩:=tQ aG A outer s H vs Q E rfl hr jd;exact⟨t,h.rD,q⟩
end L2
namespace HD
open PySem PySem.Spec PyProof.Rows L2
open PySem.W (Codec)
def zP:List Stmt→Option Expr
 |[.Return (some (.Call _ [_,_,_,e] _ _)) _]=>some e
 |_=>none
def VQ:Option Expr→Option Arguments
 |some (.Lambda a _ _ _)=>some a
 |_=>none
def VR:Option Expr→Option Expr
 |some (.Lambda _ b _ _)=>some b
 |_=>none
def VS:Option Expr→Option Scope
 |some (.Lambda _ _ s _)=>some s
 |_=>none
def ajS:(VQ Át).isSome=true:=by rfl
def ajT:(VR Át).isSome=true:=by rfl
def ajU:(VS Át).isSome=true:=by rfl
abbrev mA:Arguments:=(VQ Át).get ajS
abbrev mB:Expr:=(VR Át).get ajT
abbrev mS:Scope:=(VS Át).get ajU
abbrev xS:Str:="many.<locals>.<lambda>"
inductive VT(k:Kn)(vs:aq)(H:Hp)(Q:VK)(E':XK):Prop
 |mk (f:B7) (_:vs=[.ref f.a]) (_:MK k H f) (_:∀H' r,n9 H H' r (.lst [.int 0,.int ((f.rs.length:Nat):Int)])→Q Ãl H')
section
variable{P:Pg}{w:Wd}{K:FR}{mg:MG}{base:Heap}{CN CB mj CT CF N1 N2 N3 N4:Addr}{k:Kn}
def ajV:bC ["finding"] ["finding"] mS:=cu
def ajW(T:lu K k.CF ["locker","book","plate","readings"])(tL:mg "len"=none):D4 P w K mg base 7 xS (rR xS mA mB mS pm) ["finding"] (VT k):=by
 refine adz ajV (λc ij us hl=>match us,hl with|[_],_=>rfl) λf c A outer s H vs Q hr h=>?_;obtain⟨fd,rfl,hf,q⟩:=h;refine⟨_,eG (ae bh (ae ŷ ag)),?_⟩;refine⟨_,rfl,bo hf.a T.1 (T.2 _ Â) (ajK fd) ⟨fd.q,_,rfl,.inl (aa.of hf.rs.1),(by show 2≤sizeLine;decide),λr hr=>?_⟩⟩;rw[aA];exact q _ r ⟨aK hr,hr,ao⟩
def aa.put{H:Hp}{a x:Addr}{xs:aq}{o:HO}(h:ß a xs)(hx:∀u,H x=some u→∃ps,u=.gD ps):aa K (Áa o) a xs:=by
 rcases h with (h|⟨o,h⟩)|h
 ·exact .inl (.inl (by rw[au (λz=>by rw[z] at h;obtain⟨ps,e⟩:=hx _ h;cases e)];exact h))
 ·exact .inl (.inr ⟨o,by rw[au (λz=>by rw[z] at h;obtain⟨ps,e⟩:=hx _ h;cases e)];exact h⟩)
 ·exact .inr h
inductive MN(K:FR)(T:Addr)(vs:aq)(H:Hp)(Q:VK)(E':XK):Prop
 |mk (at_ ab ap:Addr) (t b p:LI) (_:vs=[.ref at_,.ref ab,.ref ap]) (_:H T=some (.gD #[])) (_:ß at_ (iv t)) (_:ß ab (iv b)) (_:ß ap (iv p)) (_:t.length≤66000) (_:b.length≤66000) (_:p.length≤66000) (_:(∀x,fQ t=some x→FM x.2)) (_:(∀m,gR p=.ok m→FO m)) (_:(∀z,Ů p=some z→∀H' r,H' r=some (.lst [.int z])→Q Ãl H')) (_:(Ů p=none→∀x y m,fQ t=some x→jX x.1 x.2 b=some y→gR p=.ok m→∀H' r,H' r=some (.lst [.int 0,.int (((uI x.2 (y.2.map (·.1)) m).length:Nat):Int)])→Q Ãl H'))
def ajX:bC ["t","b","p"] ["t","b","p"] (a7 pA):=cu
def ajY{f:Addr}{fd:FD}{T c:Addr}(F:br K "many" "many" pA f fd)(hc:fd.code=.ref c)(hK:Bd K c T)(hb:xh mg base)(dA:Å 8 "answered" ["t","b","p","told"] (VL K k xS (rR xS mA mB mS ((mg "__name__").getD .none)) (VT k))):Ê aE 9 f fd ["t","b","p"] (MN K T):=by
 refine F.okc ajX (λaG A outer s H vs Q E ec hr h=>?_);obtain⟨at_,ab,ap,t,b,p,rfl,hT,h1,h2,h3,l1,l2,l3,g1,g2,k1,k2⟩:=h;have ec:=ec.symm.trans hc;refine⟨_,aD (aZ (bz dA (ae Ù (ae á (ae è (ae (ads (q:=xS) hK hb ec rfl rfl) ag)))))),?_⟩;refine⟨_,rfl,_,rfl,_,rfl,hT,λlf lc ij i4 n1 n2 n3=>?_⟩;have nT:∀u,H T=some u→∃ps,u=.gD ps:=λu e=>by
  simp_all
 have nlc:lc≠T:=λz=>by rw[z,hT] at n2;cases n2
 have nlf:lf≠T:=λz=>by rw[z,hT] at n1;cases n1
 have seq:∀{a:Addr}{xs:aq},ß a xs→aa K (upd (upd (ϛ (.gD i4)) lc (yT lc xS)) lf (yS lf (rR xS mA mB mS ((mg "__name__").getD .none) lc ij))) a xs:=λh=>
  aa.put (aa.put (aa.put h nT) (λu e=>by rw[au nlc,n2] at e;cases e)) (λu e=>by rw[au n3.symm,au nlf,n1] at e;cases e)
 refine⟨at_,ab,ap,lf,t,b,p,rfl,⟨lc,ij,ao,by rw[au n3,ao]⟩,seq h1,seq h2,seq h3,l1,l2,l3,g1,g2,k1,λer x y m ex ey em H' fd s' ok is=>?_⟩;refine⟨fd,rfl,ok,λH2 r n=>k2 er x y m ex ey em H2 r ?_⟩;rw[n.2.2,←is.r,aA]
end
end HD
end
section
namespace HD
open PySem
def bitAnd_nn(a b:Nat):Builtin.bitAnd (a:Int) (b:Int)=((a&&& b:Nat):Int):=by
 rfl
def xT(g b:Nat):xH g b=g.testBit b:=by
 unfold xH;have e:((g:Nat):Int)/2^b=((g/2^b:Nat):Int):=by
  rfl
 rw[e,show(1:Int)=((1:Nat):Int) from rfl,bitAnd_nn,Nat.testBit_eq_decide_div_mod_eq,Nat.and_one_is_mod];grind
def B9(g b:Nat):gU g b=false↔ ∀i,b.testBit i=true→g.testBit i=true:=by
 have e1:gU g b=decide (b&&& g≠b):=by
  unfold gU Builtin.bitAnd Builtin.bitNot;rw[eF (ON b),fC (by omega:¬(0:Int)≤ -((g:Nat):Int)-1)];dsimp only;rw[show-(-((g:Nat):Int)-1)-1=((g:Nat):Int) by omega,Cy,Cy];have j0:b&&& g≤b:=Nat.and_le_left;by_cases h:b&&& g=b
  ·rw[h];simp
  ·rw[eF h];have:((b:Nat):Int)-((b&&& g:Nat):Int)≠0:=by omega
   simpa using this
 rw[e1,GJ,Decidable.not_not];refine⟨λh i hi=>?_,λh=>aoZ λi=>?_⟩
 ·rw[←h,C2,jq] at hi;exact hi.2
 ·rw[C2];cases hb:b.testBit i with
  |false=>rfl
  |true=>rw[h i hb];rfl
def FQ:gU g b=true↔ ∃i,b.testBit i=true∧g.testBit i=false:=by
 constructor
 ·intro h;refine OP λhn=>?_;have:gU g b=false:=(B9 g b).mpr λi hi=>by
   simp_all
  simp_all
 ·rintro⟨i,h1,h2⟩;cases e:gU g b with
  |true=>rfl
  |false=>
   rw[(B9 g b).mp e i h1] at h2;simp_all
theorem aj1(g b:Nat):uA g (2^b)=g.testBit b:=by
 unfold uA;rw[bitAnd_nn];cases e:g.testBit b with
 |true=>
  have h:g&&& 2^b≠0:=λz=>by
   have h1:(g&&& 2^b).testBit b=true:=by rw[C2,e,ao0];rfl
   simp_all
  simp_all
 |false=>
  have h:g&&& 2^b=0:=aoZ λi=>by
   grind
  simp_all
def aj2(g:Nat):uA g 0=false:=by
 unfold uA;rw[bitAnd_nn,Nat.and_zero];rfl
abbrev oZ(g b:Nat):Int:=jV (gU g b)
def sL(g b:Nat):oZ g b=0∨oZ g b=1:=by
 unfold oZ jV;split <;> simp
theorem FS(hs:∀i,g.testBit i=true→h.testBit i=true):oZ h b≤oZ g b:=by
 unfold oZ jV;cases e:gU h b with
 |false=>
  have:=sL g b;unfold oZ jV at this;rw[ah dZ];omega
 |true=>
  obtain⟨i,h1,h2⟩:=FQ.mp e;have:gU g b=true:=FQ.mpr ⟨i,h1,by
   cases e2:g.testBit i with
   |false=>rfl
   |true=>rw[hs i e2] at h2;cases h2⟩
  rw[this];exact GX _
def FT(a c:Nat):∀i,a.testBit i=true→(a|||c).testBit i=true:=λi h=>by rw[Nat.testBit_or,h];rfl
def VU(a c:Nat):∀i,c.testBit i=true→(a|||c).testBit i=true:=λi h=>by rw[Nat.testBit_or,h,W8]
def VV(a c:Nat):∀i,(a&&& c).testBit i=true→a.testBit i=true:=λi h=>by rw[C2,jq] at h;exact h.1
def aj3(a c:Nat):∀i,(a&&& c).testBit i=true→c.testBit i=true:=λi h=>by rw[C2,jq] at h;exact h.2
def aj4(a c b:Nat):oZ (a|||c) b+oZ (a&&& c) b≤oZ a b+oZ c b:=by
 have h1:=FS (b:=b) (FT a c);have h2:=FS (b:=b) (VU a c);have h3:=sL (a|||c) b;have h4:=sL (a&&& c) b;have h5:=sL a b;have h6:=sL c b;rcases h5 with e5|e5
 ·rcases h6 with e6|e6
  ·have f5:gU a b=false:=by
    cases e:gU a b with
    |false=>rfl
    |true=>unfold oZ jV at e5;rw[e] at e5;cases e5
   have f6:gU c b=false:=by
    cases e:gU c b with
    |false=>rfl
    |true=>unfold oZ jV at e6;rw[e] at e6;cases e6
   have f4:gU (a&&& c) b=false:=(B9 _ _).mpr λi hi=>by
    rw[C2,(B9 _ _).mp f5 i hi,(B9 _ _).mp f6 i hi];rfl
   grind
  ·omega
 ·omega
def i0(l:cf)(s:Nat):Nat:=(l.filter λp=>decide (p.1=s)).length
def jF(l:cf)(s g:Nat):Int:=((l.filter λp=>decide (p.1=s)).map λp=>oZ g p.2).sum
def bc(lf:Nat→Int)(l:cf)(s g:Nat):Int:=(i0 l s:Int)-lf s-jF l s g
def i3(n:Nat)(sm:Nat→Nat)(lf:Nat→Int)(g:Nat):Int:=((List.range n).map λb=>if g.testBit b=true then lf ϭ else 0).sum
def iM(lf:Nat→Int)(l:cf)(g:Nat)(D:LN):Int:=(D.map λs=>cy (Đ g)).sum
def dg(n:Nat)(sm:Nat→Nat)(lf:Nat→Int)(l:cf)(D:LN)(g:Nat):Int:=i3 n sm lf g-iM lf l g D
theorem aj5(hs:∀i,g.testBit i=true→h.testBit i=true)(l:cf)(s:Nat):jF l s h≤jF l s g:=by
 unfold jF;generalize l.filter (λp=>decide (p.1=s))=L;induction L with
 |nil=>simp
 |cons p L ih=>
  have:=FS (b:=p.2) hs;grind
theorem aj6(a c:Nat)(l:cf)(s:Nat):jF l s (a|||c)+jF l s (a&&& c)≤jF l s a+jF l s c:=by
 unfold jF;generalize l.filter (λp=>decide (p.1=s))=L;induction L with
 |nil=>simp
 |cons p L ih=>
  have:=aj4 a c p.2;grind
theorem Ca(l:cf)(s g:Nat):0≤jF l s g∧jF l s g≤i0 l s:=by
 unfold jF i0;generalize l.filter (λp=>decide (p.1=s))=L;induction L with
 |nil=>exact⟨GX _,GX _⟩
 |cons p L ih=>
  have:=sL g p.2;simp only[aY,gM,cZ];omega
theorem aj7(n:Nat)(sm:Nat→Nat)(lf:Nat→Int)(a c:Nat):i3 n sm lf (a|||c)+i3 n sm lf (a&&& c)=i3 n sm lf a+i3 n sm lf c:=by
 unfold i3;generalize List.range n=L;induction L with
 |nil=>rfl
 |cons b L ih=>
  have h:(if (a|||c).testBit b=true then lf ϭ else 0)+(if (a&&& c).testBit b=true then lf ϭ else 0)=(if a.testBit b=true then lf ϭ else 0)+(if c.testBit b=true then lf ϭ else 0):=by
   grind
  grind
def aj8(h:x+y≤u+i)(h1:x≤u)(h2:y≤u)(h3:i≤x)(h4:i≤y):cy x+cy y≤cy u+cy i:=by
 unfold cy;omega
def zQ(hs:∀i,g.testBit i=true→h.testBit i=true)(lf:Nat→Int)(l:cf)(s:Nat):Đ g≤bc lf l s h:=by
 have:=aj5 hs l s;unfold bc;omega
def VW(a c:Nat)(lf:Nat→Int)(l:cf)(s:Nat):Đ a+bc lf l s c≤bc lf l s (a|||c)+bc lf l s (a&&& c):=by
 have:=aj6 a c l s;unfold bc;omega
def MO(a c:Nat)(lf:Nat→Int)(l:cf)(s:Nat):cy (Đ a)+cy (Đ c)≤cy (Đ (a|||c))+cy (Đ (a&&& c)):=
 aj8 (VW a c lf l s) (zQ (FT a c) lf l s) (zQ (VU a c) lf l s) (zQ (VV a c) lf l s) (zQ (aj3 a c) lf l s)
theorem aj9(a c:Nat)(lf:Nat→Int)(l:cf):∀D:LN,iM lf l a D+iM lf l c D≤iM lf l (a|||c) D+iM lf l (a&&& c) D:=by
 intro D;induction D with
 |nil=>exact GX _
 |cons s D ih=>
  have h1:=ih;have h2:=MO a c lf l s;unfold iM at h1⊢;simp only[aY,gM];omega
theorem aka(a c:Nat)(lf:Nat→Int)(l:cf){s:Nat}{D:LN}:s∈D→(iM lf l a D+iM lf l c D)+(cy (Đ (a|||c))+cy (Đ (a&&& c))-cy (Đ a)-cy (Đ c))≤iM lf l (a|||c) D+iM lf l (a&&& c) D:=by
 induction D with
 |nil=>exact @λh=>absurd h Â
 |cons x D ih=>
  intro h;rcases bf.mp h with rfl|h
  ·have h1:=aj9 a c lf l D;unfold iM at h1⊢;simp only[aY,gM];omega
  ·have h1:=ih h;have h2:=MO a c lf l x;unfold iM at h1⊢;simp only[aY,gM];omega
def akb{h b c:Nat}(h1:h.testBit b=false)(h2:c.testBit b=true):h<h|||c:=by
 have j0:h≤h|||c:=Nat.left_le_or;grind
def uJ(lf:Nat→Int)(l:cf)(s b g:Nat):bc lf ((s,b)::l) s g=bc lf l s g+1-oZ g b:=by
 unfold bc i0 jF;grind
def zR(lf:Nat→Int)(l:cf)(b g:Nat)(h:s≠s'):bc lf ((s,b)::l) s' g=bc lf l s' g:=by
 unfold bc i0 jF;simp_all
def akc(n:Nat)(sm:Nat→Nat)(lf:Nat→Int)(l:cf){D:LN}{s:Nat}(hs:s∈D)(a c:Nat):dg n sm lf l D (a|||c)+dg n sm lf l D (a&&& c)+(cy (Đ (a|||c))+cy (Đ (a&&& c))-cy (Đ a)-cy (Đ c))≤dg n sm lf l D a+dg n sm lf l D c:=by
 have h1:=aj7 n sm lf a c;have h2:=aka a c lf l hs;unfold dg;omega
def MP(n:Nat)(sm:Nat→Nat)(lf:Nat→Int)(l:cf)(D:LN)(s B:Nat):Prop:=∀g,g<2^n→0≤dg n sm lf l D g+cy (Đ g)-cy (Đ g+oZ g B)
def VX(n:Nat)(sm:Nat→Nat)(lf:Nat→Int)(l:cf)(D:LN)(s B b:Nat):Prop:=∀g,g<2^n→0≤dg n sm lf l D g+cy (Đ g)-cy (Đ g-1+oZ g B)-(if g.testBit b=true then 1 else 0)
def akd(n:Nat)(sm:Nat→Nat)(lf:Nat→Int)(r:cf){D:LN}{s B:Nat}(hs:s∈D)(h:∀g,g<2^n→0≤dg n sm lf Û D g):
  MP n sm lf Û D s B∨∃b,B.testBit b=true∧VX n sm lf Û D s B b:=by
 refine OP λhn=>?_;have EN:=λz=>hn (Or.inl z);have lL:=λb hb z=>hn (Or.inr ⟨b,hb,z⟩);have g8:∀(m g:Nat),2^n-g≤m→g<2^n→oZ g B=1→dg n sm lf Û D g=0→0≤bc lf Û s g→False:=by
  intro m;induction m with
  |zero=>omega
  |succ m ih=>
   intro g hm hg ho h0 aql;have hob:gU g B=true:=by
    cases e:gU g B with
    |true=>rfl
    |false=>unfold oZ jV at ho;rw[e] at ho;cases ho
   obtain⟨b,hb1,Fx⟩:=FQ.mp hob;have tF:=lL b hb1;unfold VX at tF;have ⟨c,hc⟩:=ao1.mp tF;have gE:=OP λz=>hc λy=>absurd y z;have hc:¬0≤dg n sm lf Û D c+cy (bc lf Û s c)-cy (bc lf Û s c-1+oZ c B)-(if c.testBit b=true then 1 else 0):=λz=>hc λ_=>z;have hcs:=h c gE;have hco:=sL c B;have VY:c.testBit b=true:=by
    cases e:c.testBit b with
    |true=>rfl
    |false=>
     rw[e,ah dZ] at hc;exfalso;apply hc;unfold cy;omega
   rw[VY,af rfl] at hc;have hUl:=Nat.or_lt_two_pow hg gE;have hIl:=Nat.and_lt_two_pow g gE;have hU:=h _ hUl;have hI:=h _ hIl;have Ai:=akc n sm lf Û hs g c;have akj:=MO g c lf Û s;have hgU:=zQ (FT g c) lf Û s;have MQ:=sL (g|||c) B;have hIo:=FS (b:=B) (VV g c);have aqp:=sL (g&&& c) B;have ug:=zQ (FT g c) lf r s;have rT:=VW g c lf r s;have e1:=uJ lf r s B g;have e2:=uJ lf r s B c;have e3:=uJ lf r s B (g|||c);have e4:=uJ lf r s B (g&&& c);generalize hS0:dg n sm lf Û D c=S0 at hcs hc Ai;generalize dg n sm lf Û D (g&&& c)=SI at hI Ai;rw[h0] at Ai;have VZ:S0=0∧(oZ c B=1∨bc lf Û s c≤0):=by
    unfold cy at hc;omega
   obtain⟨VZ,jc⟩:=VZ;rcases MQ with MQ|MQ
   ·exfalso;unfold cy at Ai akj;omega
   ·have hSU:dg n sm lf Û D (g|||c)=0:=by omega
    have:=akb Fx VY;grind
 unfold MP at EN;have ⟨g,hg⟩:=ao1.mp EN;have ni:=OP λz=>hg λy=>absurd y z;have hg:¬0≤dg n sm lf Û D g+cy Èe-cy (bc lf Û s g+oZ g B):=λz=>hg λ_=>z;have hgs:=h g ni;have rV:=sL g B;have hz:oZ g B=1∧dg n sm lf Û D g=0∧0≤bc lf Û s g:=by
  unfold cy at hg;omega
 exact g8 _ g (bO _) ni hz.1 hz.2.1 hz.2.2
theorem akk(f:Nat→Int){a b:LN}(h:a.Perm b):(a.map f).sum=(b.map f).sum:=by
 induction h with
 |nil=>rfl
 |cons x _ ih=>rw[aY,aY,gM,gM,ih]
 |swap x y l=>
  simp only[aY,gM];omega
 |trans _ _ h1 h2=>exact h1.trans h2
theorem MR(f:Nat→Int){D:LN}:(∀s∈D,f s=0)→(D.map f).sum=0:=by
 induction D with
 |nil=>exact @λ_=>rfl
 |cons x D ih=>
  intro h;rw[aY,gM,h x Â,ih λs hs=>h s (aN _ hs)];rfl
theorem akl(f:Nat→Int):∀{A D:LN},A.Nodup→D.Nodup→(∀s∈A,s∉D→f s=0)→(∀s∈D,s∉A→f s=0)→(A.map f).sum=(D.map f).sum:=by
 intro A;induction A with
 |nil=>exact @λD _ _ _ h=>(MR f λs hs=>h s hs Â).symm
 |cons x A ih=>
  intro D hA hD h1 h2;obtain⟨hx,hA⟩:=j4.mp hA;by_cases Fn:x∈D
  ·have hp:=List.perm_cons_erase Fn;rw[akk f hp,aY,aY,gM,gM];congr 1;refine ih hA (hD.erase x) (λs hs hn=>?_) (λs hs hn=>?_)
   ·exact h1 s (aN _ hs) λz=>hn ((hD.mem_erase_iff).mpr ⟨λe=>hx (e▸ hs),z⟩)
   ·obtain⟨z1,z2⟩:=(hD.mem_erase_iff).mp hs;exact h2 s z2 λz=>(bf.mp z).elim z1 hn
  ·rw[aY,gM,h1 x Â Fn,XI];exact ih hA hD (λs hs=>h1 s (aN _ hs)) λs hs hn=>h2 s hs λz=>(bf.mp z).elim (λe=>Fn (e▸ hs)) hn
theorem V0:∀(n:Nat)(l:LN),l.length≤n→l.eraseDups.Nodup
 |0,l,h=>by
  have:l=[]:=OD.mp Ä;rw[this];exact Ae
 |n+1,[],_=>Ae
 |n+1,a::l,h=>by
  rw[List.eraseDups_cons];refine j4.mpr ⟨λz=>?_,V0 n _ ?_⟩
  ·have:=ao2.mp z;simp at this
  ·have:=GO (λb=>!b==a) l;simp only[cZ] at h;omega
def uK(q:Nat→Bool)(n:Nat):Nat:=(((List.range n).filter q).map (2^ ·)).sum
def V1(q:Nat→Bool)(n:Nat):uK q (n+1)=(if q n=true then 2^n else 0)+uK q n:=by
 unfold uK;rw[GQ,CY,bV,List.sum_append];grind
theorem MS(q:Nat→Bool):∀n,uK q n<2^n:=by
 intro n;induction n with
 |zero=>
  simp[uK]
 |succ n ih=>
  rw[V1];have:=ih;have e:2^(n+1)=2^n+2^n:=by rw[OJ];omega
  split <;> omega
theorem V2(q:Nat→Bool):∀n b,(uK q n).testBit b=(decide (b<n)&&q b):=by
 intro n;induction n with
 |zero=>
  intro b;simp[uK]
 |succ n ih=>
  intro b;rw[V1];have hl:=MS q n;have ih:=ih b;by_cases h:q n=true
  ·rw[af h];by_cases hb:b<n
   ·rw[ao3 hb,ih,eF hb,eF Ä]
   ·by_cases he:b=n
    ·subst he;rw[ao4,C3 hl,h,eF Ä];rfl
    ·rw[fC Ä,kW];refine C3 ?_;have e1:2^(n+1)=2^n+2^n:=by rw[OJ];omega
     have e2:2^(n+1)≤2^b:=GU Ø Ä;omega
  ·rw[ah h,wk,ih];by_cases hb:b<n
   ·rw[eF hb,eF Ä]
   ·by_cases he:b=n
    ·subst he;have:q b=false:=by simpa using h
     rw[this,yc,yc]
    ·rw[fC hb,fC Ä]
theorem akm(q:Nat→Bool):∀l:LN,l.filter q∈Flags.choices l:=by
 intro l;induction l with
 |nil=>
  simp[Flags.choices]
 |cons x l ih=>
  have ih:=ih;unfold Flags.choices;by_cases h:q x=true
  ·rw[Af h];exact tj _ (cb.mpr ⟨_,ih,rfl⟩)
  ·rw[Ag h];exact z8 _ ih
def c9(sames:LN)(p:Nat×Nat):Flags.Spot:=⟨p.1,(oy sames.length p.2).map λb=>sames.getD b 0⟩
def aV(left:LN):Nat→Int:=λk=>((left.getD k 0:Nat):Int)
def V3(sames left:LN)(l:cf)(s:Nat):Flags.lacks left Æf s=i0 l s-left.getD s 0:=by
 unfold Flags.lacks i0;rw[yf,aA];congr 2
def akn(sames:LN)(l:cf)(s g:Nat)(y:LN)(hg:∀b,b<sames.length→g.testBit b=!y.contains ŀ)(hl:∀p∈l,p.2<2^sames.length):
  (((l.map ò).filter λp=>p.sign==s&&p.may.any λk=>y.contains k).length:Int)=jF l s g:=by
 rw[yf,aA];unfold jF;induction l with
 |nil=>rfl
 |cons p l ih=>
  have ih:=ih λx hx=>hl x (aN _ hx);have hp:=hl p Â;have eo:(c9 sames p).may.any (λk=>y.contains k)=gU g p.2:=by
   unfold c9;rw[Oo,oP,uP,FQ];unfold oy;constructor
   ·rintro⟨b,hb,h⟩;obtain⟨h1,h2⟩:=j3.mp hb;simp at h1;refine⟨b,by rw[←xT];exact h2,?_⟩;simp_all
   ·rintro⟨b,h1,h2⟩;have hb:b<sames.length:=by
     refine Xy λz=>?_;have:p.2.testBit b=false:=C3 (i8 hp (GU Ø z));simp_all
    refine⟨b,j3.mpr ⟨by simp_all,by rw[xT];exact h1⟩,?_⟩;simp_all
  by_cases hs:p.1=s
  ·rw[Af (l:=l) (p:=λp=>decide (p.1=s)) Ç,aY,gM,←ih];have e1:((c9 sames p).sign==s)=true:=by simpa [c9] using hs
   cases eb:gU g p.2 with
   |true=>
    rw[Af Ç,cZ];unfold oZ jV;grind
   |false=>
    rw[Ag Ç];unfold oZ jV;simp_all
  ·rw[Ag (l:=l) (p:=λp=>decide (p.1=s)) Ç,←ih];have e1:((c9 sames p).sign==s)=false:=by simpa [c9] using hs
   simp_all
theorem sum_nat(f:Nat→Nat):∀l:LN,(((l.map f).sum:Nat):Int)=(l.map λs=>((f s:Nat):Int)).sum:=by
 intro l;induction l with
 |nil=>exact rfl
 |cons x l ih=>
  rw[aY,aY,gM,gM,Int.natCast_add,ih]
theorem sum_add(f g h:Nat→Int){l:LN}:(∀s∈l,f s=g s+h s)→(l.map f).sum=(l.map g).sum+(l.map h).sum:=by
 induction l with
 |nil=>exact @λ_=>rfl
 |cons x l ih=>
  intro e;rw[aY,aY,aY,gM,gM,gM,e x Â,ih λs hs=>e s (aN _ hs)];omega
def ako(sames left:LN)(g:Nat)(y:LN)(hg:∀b,b<sames.length→g.testBit b=!y.contains ŀ):
  ((((sames.filter λk=>!y.contains k).map λk=>left.getD k 0).sum:Nat):Int)=i3 sames.length Âv â g:=by
 have gen:∀(L:LN)(o:Nat),(∀b,b<L.length→g.testBit (o+b)=!y.contains Ær)→((((L.filter λk=>!y.contains k).map λk=>left.getD k 0).sum:Nat):Int)=((List.range L.length).map λb=>if g.testBit (o+b)=true then aV left Ær else 0).sum:=by
  intro L;induction L with
  |nil=>intro o _;rfl
  |cons x L ih=>
   intro o h;have h0:=h 0 Â;rw[Xx] at h0;have h0:g.testBit o=!y.contains x:=h0;have ih:=ih (o+1) λb hb=>by
    have:=h (b+1) (by simpa using hb);rw[show o+1+b=o+(b+1) by omega,this];rfl
   rw[cZ,CJ,aY,gM,cO];have e2:(List.range L.length).map ((λb=>if g.testBit (o+b)=true then aV left ((x::L).getD b 0) else 0)∘Nat.succ)=(List.range L.length).map λb=>if g.testBit (o+1+b)=true then aV left Ær else 0:=by
    apply j6;intro b _;show(if g.testBit (o+(b+1))=true then aV left Ær else 0)=_;rw[show o+(b+1)=o+1+b by omega]
   rw[e2,←ih,Xx];show _=(if g.testBit o=true then aV left x else 0)+_;rw[h0];by_cases hy:y.contains x=true
   ·rw[hy,Ag (by rw[hy];decide)];simp
   ·have hy:y.contains x=false:=by simpa using hy
    rw[hy,Af (by rw[hy];rfl),aY,gM,Int.natCast_add];rfl
 have:=gen sames 0 λb hb=>by rw[wk];exact hg b hb
 simp only[wk] at this;exact this
def xU(lf:Nat→Int)(l:cf)(D:LN):Prop:=∀s,s∉D→(i0 l s:Int)≤lf s
def MT(h:s∉l.map (·.1)):i0 l s=0:=by
 unfold i0;rw[OD,aoV];grind
def V4(sames left:LN)(l:cf)(y:LN)(g:Nat)(hg:∀b,b<sames.length→g.testBit b=!y.contains ŀ)(hl:∀p∈l,p.2<2^sames.length){D:LN}(hD:D.Nodup)(FU:xU â l D):
  ((((l.map ò).map λp=>p.sign).eraseDups.map (Flags.lacks left Æf)).sum≤((sames.filter λk=>!y.contains k).map λk=>left.getD k 0).sum+(((l.map ò).map λp=>p.sign).eraseDups.map λs=>min ϵ (((l.map ò).filter λp=>p.sign==s&&p.may.any λk=>y.contains k).length)).sum)↔
   0≤dg sames.length Âv â l D g:=by
 have esg:(l.map ò).map (λp=>p.sign)=l.map (·.1):=by
  rw[cO];rfl
 rw[esg];have h1:=ako sames left g y hg;have h2:=sum_nat (Flags.lacks left Æf) (l.map (·.1)).eraseDups;have h3:=sum_nat (λs=>min ϵ (((l.map ò).filter λp=>p.sign==s&&p.may.any λk=>y.contains k).length)) (l.map (·.1)).eraseDups;have h4:=sum_add (λs=>((Flags.lacks left Æf s:Nat):Int)) (λs=>((min ϵ (((l.map ò).filter λp=>p.sign==s&&p.may.any λk=>y.contains k).length):Nat):Int)) (λs=>cy (bc â l s g)) (l:=(l.map (·.1)).eraseDups) λs _=>by
  have e1:=akn sames l s g y hg hl;have e2:=V3 sames left l s;have e3:=Ca l s g;generalize ((l.map ò).filter λp=>p.sign==s&&p.may.any λk=>y.contains k).length=o at e1;rw[e2];unfold bc cy aV;omega
 have h5:=akl (λs=>cy (bc â l s g)) (A:=(l.map (·.1)).eraseDups) (D:=D) (V0 _ _ (bO _)) hD (λs _ hn=>?_) (λs _ hn=>?_)
 ·unfold dg iM;omega
 ·have e1:=FU s hn;have e3:=Ca l s g;unfold bc cy;omega
 ·have e0:=MT λz=>hn (ao2.mpr z);have e3:=Ca l s g;unfold bc cy aV;omega
def V5{L:Flags.Locker}{sames:LN}(hs:L.sameKinds=sames)(BJ:sames.Nodup)(left:LN)(l:cf)(hl:∀p∈l,p.2<2^sames.length){D:LN}(hD:D.Nodup)(FU:xU â l D):
  L.enough left Æf=true↔ ∀g,g<2^sames.length→0≤dg sames.length Âv â l D g:=by
 unfold Flags.Locker.enough;rw[hs,kZ];constructor
 ·intro h g hg;have hy:=h _ (akm (λk=>!g.testBit (sames.idxOf k)) sames);rw[nI] at hy;refine(V4 sames left l _ g Ċ hl hD FU).mp hy;simp_all
 ·intro h y _;rw[nI];refine(V4 sames left l y (uK (λb=>!y.contains ŀ) sames.length) Ċ hl hD FU).mpr (h _ (MS _ _));rw[V2,eF hb,lF]
end HD
end
section
namespace HD
open PySem L2
def fj(n:Nat)(sm:Nat→Nat)(lf:Nat→Int)(l:cf)(D:LN):gZ:=(D.map λs=>(s,(List.range (2^n)).map (bc lf l s)),(List.range (2^n)).map (dg n sm lf l D))
def dec(lf:Nat→Int)(k:Nat):Nat→Int:=λj=>if j=k then lf j-1 else lf j
def V6(f:Nat→Int)(h:g<G):((List.range G).map f).getD g 0=f g:=by
 simp_all
def oJ{G:Nat}{f h:Nat→Int}(e:∀g,g<G→f g=h g):(List.range G).map f=(List.range G).map h:=by
 simp_all
def Cb(f:Nat→Int)(G:Nat):nu ((List.range G).map f)=true↔ ∀g,g<G→0≤f g:=by
 unfold nu;simp
theorem DW(f:Nat→β)(s:Nat):∀D:LN,bW (D.map λx=>(x,f x)) s=if s∈D then some (f s) else none:=by
 intro D;induction D with
 |nil=>exact rfl
 |cons x D ih=>
  have ih:=ih;unfold bW at ih⊢;rw[aY];by_cases h:x=s
  ·subst h;rw[List.find?_cons_of_pos Â,af Â];rfl
  ·rw[ao5 (by simpa using h),ih];by_cases h2:s∈D
   ·rw[af h2,af (aN _ h2)]
   ·rw[ah h2,ah (λz=>(bf.mp z).elim (λe=>h e.symm) h2)]
def V7{β:Type}(f:Nat→β){s:Nat}(v:β){D:LN}(h:s∈D):d8 (D.map λx=>(x,f x)) s v=D.map λx=>(x,if x=s then v else f x):=by
 unfold d8;have ha:((D.map λx=>(x,f x)).any λp=>decide (p.1=s))=true:=by
  simp_all
 rw[af ha,cO];apply j6;grind
theorem FV(f h:Nat→Int){s:Nat}{D:LN}:D.Nodup→s∈D→(∀x∈D,x≠s→h x=f x)→(D.map h).sum=(D.map f).sum-f s+h s:=by
 induction D with
 |nil=>exact @λ_ hs _=>absurd hs Â
 |cons x D ih=>
  intro nd hs e;obtain⟨hx,nd⟩:=j4.mp nd;rw[aY,aY,gM,gM];by_cases oK:x=s
  ·subst oK;have:(D.map h).sum=(D.map f).sum:=by
    congr 1;apply j6;intro y hy;exact e y (aN _ hy) λz=>hx (z▸ hy)
   rw[this];omega
  ·have yi:=(bf.mp hs).elim (λz=>absurd z.symm oK) id;rw[ih nd yi λy hy=>e y (aN _ hy),e x Â oK];omega
def V8{n:Nat}{sm:Nat→Nat}{lf:Nat→Int}{k:Nat}(h:∀b,b<n→sm b≠k)(g:Nat):i3 n sm (dec lf k) g=i3 n sm lf g:=by
 unfold i3;congr 1;apply j6;intro b hb;unfold dec;simp_all
def akq{sm:Nat→Nat}{lf:Nat→Int}(hb:b<n)(hi:∀a,a<n→sm a=sm b→a=b)(g:Nat):i3 n sm Äp g=i3 n sm lf g-(if g.testBit b=true then 1 else 0):=by
 unfold i3;have:=FV (λa=>if g.testBit a=true then lf (sm a) else 0) (λa=>if g.testBit a=true then dec lf ϭ (sm a) else 0) (s:=b) (D:=List.range n) XQ Ç λx hx aQ=>by
  unfold dec;grind
 rw[this];have e:dec lf ϭ ϭ=lf ϭ-1:=by unfold dec;rw[af rfl]
 grind
def MU(lf:Nat→Int)(l:cf)(s g:Nat):bc Âm l s g=bc lf l s g+1:=by
 unfold bc dec;rw[af rfl];omega
def vW(lf:Nat→Int)(l:cf){s k:Nat}(h:s≠k)(g:Nat):bc (dec lf k) l s g=bc lf l s g:=by
 unfold bc dec;rw[ah h]
section
variable{n:Nat}{sm:Nat→Nat}{lf:Nat→Int}{r:cf}{D:LN}{s B:Nat}
def V9(jY:s∈D)(nd:D.Nodup)(gj:∀b,b<n→sm b≠s)(g:Nat):dg n sm Âm r D g=dg n sm lf Û D g+cy Èe-cy (bc lf Û s g+oZ g B):=by
 unfold dg;rw[V8 gj];have:=FV (λx=>cy (bc lf Û x g)) (λx=>cy (bc Âm r x g)) nd jY λx _ aQ=>by
  rw[vW _ _ aQ,zR _ _ _ _ Åb]
 unfold iM;rw[this,MU,uJ];grind
def Wa{b:Nat}(hb:b<n)(hi:∀a,a<n→sm a=sm b→a=b)(jY:s∈D)(nd:D.Nodup)(xV:sm b∉D)(g:Nat):dg n sm Äp r D g=dg n sm lf Û D g+cy Èe-cy (bc lf Û s g-1+oZ g B)-(if g.testBit b=true then 1 else 0):=by
 unfold dg;rw[akq hb hi];have:=FV (λx=>cy (bc lf Û x g)) (λx=>cy (bc Äp r x g)) nd jY λx hx aQ=>by
  rw[vW _ _ (λz=>xV Ç),zR _ _ _ _ Åb]
 unfold iM;rw[this,vW _ _ (λz=>xV Ç),uJ];grind
def Wb(jY:s∉D)(gj:∀b,b<n→sm b≠s)(g:Nat):dg n sm Âm r D g=dg n sm lf Û D g:=by
 unfold dg iM;rw[V8 gj];congr 2;apply j6;intro x hx;have aQ:x≠s:=λz=>jY (z▸ hx);rw[vW _ _ aQ,zR _ _ _ _ Åb]
def akr(jY:s∉D)(gj:∀b,b<n→sm b≠s):fj n sm lf Û D=fj n sm Âm r D:=by
 unfold fj;congr 1
 ·apply j6;intro x hx;have aQ:x≠s:=λz=>jY (z▸ hx);congr 1;exact oJ λg _=>by rw[vW _ _ aQ,zR _ _ _ _ Åb]
 ·exact oJ λg _=>(Wb jY gj g).symm
def Wc:sy 0=0:=rfl
def We(b:Nat):sy (2^b)= -1:=by
 unfold sy;have:0<2^b:=Nat.two_pow_pos b;grind
def MV(f:Nat→Int)(G B same:Nat):iL ((List.range G).map f) B same=(List.range G).map λg=>f g+sy same+oZ g B:=by
 unfold iL;simp_all
def Wf(f h:Nat→Int)(G B same:Nat):jl ((List.range G).map f) ((List.range G).map h) B same=(List.range G).map λg=>h g+cy (f g)-cy (f g+sy same+oZ g B)-jV (uA g same):=by
 unfold jl;rw[aA,gX,MV];simp_all
def Wg(jY:s∈D)(nd:D.Nodup)(gj:∀b,b<n→sm b≠s):jl ((List.range (2^n)).map Æm) (fj n sm lf Û D).2 B 0=(List.range (2^n)).map (dg n sm Âm r D):=by
 unfold fj;rw[Wf];exact oJ λg _=>by
  rw[V9 (B:=B) jY nd gj,Wc,aj2,show jV false=0 from rfl,Int.add_zero,Int.sub_zero]
def MW(hb:b<n)(hi:∀a,a<n→sm a=sm b→a=b)(jY:s∈D)(nd:D.Nodup)(xV:sm b∉D):jl ((List.range (2^n)).map Æm) (fj n sm lf Û D).2 B (2^b)=(List.range (2^n)).map (dg n sm Äp r D):=by
 unfold fj;rw[Wf];exact oJ λg _=>by
  rw[Wa (B:=B) hb hi jY nd xV,We,aj1];rfl
def aks(jY:s∈D)(nd:D.Nodup)(gj:∀b,b<n→sm b≠s):qN (fj n sm lf Û D) s B 0 ((List.range (2^n)).map Æm)=fj n sm Âm r D:=by
 unfold qN;rw[Wg jY nd gj];unfold fj;rw[V7 _ _ jY,MV];congr 1;apply j6;intro x hx;congr 1;by_cases h:x=s
 ·rw[af h,h];exact oJ λg _=>by rw[MU,uJ,Wc];omega
 ·rw[ah h];exact oJ λg _=>by rw[vW _ _ h,zR _ _ _ _ (dJ h)]
def akt{b:Nat}(hb:b<n)(hi:∀a,a<n→sm a=sm b→a=b)(jY:s∈D)(nd:D.Nodup)(xV:sm b∉D):qN (fj n sm lf Û D) s B (2^b) ((List.range (2^n)).map Æm)=fj n sm Äp r D:=by
 unfold qN;rw[MW hb hi jY nd xV];unfold fj;rw[V7 _ _ jY,MV];congr 1;apply j6;intro x hx;congr 1;have sM:x≠sm b:=λz=>xV (z▸ hx);by_cases h:x=s
 ·rw[af h,h];exact oJ λg _=>by rw[vW _ _ (h▸ sM),uJ,We];omega
 ·rw[ah h];exact oJ λg _=>by rw[vW _ _ sM,zR _ _ _ _ (dJ h)]
end
abbrev cj(sames:LN):Nat→Nat:=λb=>sames.getD b 0
structure nE(sames left:LN)(l:cf)(D:LN):Prop where
 nd:D.Nodup
 zS:xU â l D
 bits:∀p∈l,p.2<2^sames.length
 sgn:∀p∈l,∀b,b<sames.length→cj sames b≠p.1
 sd:∀b,b<sames.length→cj sames b∉D
 all:∀g,g<2^sames.length→0≤dg sames.length ü â l D g
def sN(h:0<left.getD f 0):aV Ē=dec â f:=by
 have hf:f<left.length:=by
  grind
 funext j;unfold aV dec Flags.less1;grind
def FW(nd:sames.Nodup)(hb:b<sames.length):∀a,a<sames.length→cj sames a=cj sames b→a=b:=λa ha e=>by
 unfold cj at e;rw[iQ,iQ,dm ha,dm hb] at e;exact(Xd nd).mp e
def cnt_cons(r:cf)(s B:Nat):i0 Û s=i0 r s+1:=by
 unfold i0;simp
def FX(r:cf)(B:Nat)(h:s≠x):i0 Û x=i0 r x:=by
 unfold i0;simp_all
def aku(n:Nat)(sm:Nat→Nat)(lf:Nat→Int):i3 n sm lf 0=0:=by
 unfold i3;exact MR _ λb _=>by rw[Nat.zero_testBit,ah dZ]
def akv(hb:b<n):i3 n sm lf (2^b)=lf ϭ:=by
 unfold i3;have:=FV (λ_=>(0:Int)) (λa=>if (2^b).testBit a=true then lf (sm a) else 0) (s:=b) (D:=List.range n) XQ Ç λx hx aQ=>by
  grind
 rw[this,MR _ λ_ _=>rfl,ao0,af rfl];omega
def MX(z:Int):0≤cy z:=by unfold cy;split <;> omega
theorem Wh(lf:Nat→Int)(l:cf)(g:Nat):∀D:LN,0≤iM lf l g D:=by
 intro D;induction D with
 |nil=>exact GX _
 |cons s D ih=>
  have h1:=ih;have h2:=MX (Đ g);unfold iM at h1⊢;rw[aY,gM];omega
theorem akw(lf:Nat→Int)(l:cf)(g:Nat){s:Nat}{D:LN}:s∈D→cy (Đ g)≤iM lf l g D:=by
 induction D with
 |nil=>exact @λh=>absurd h Â
 |cons x D ih=>
  intro h;have h1:=Wh lf l g D;have h2:=MX (bc lf l x g);rcases bf.mp h with rfl|h
  ·unfold iM at h1⊢;rw[aY,gM];omega
  ·have h3:=ih h;unfold iM at h1 h3⊢;rw[aY,gM];omega
def akx{sm:Nat→Nat}(hs:s∈D)(h:0≤dg n sm Äf r D 0):0<left.getD s 0:=by
 refine ao6 λz=>?_;have h1:=akw Äf r 0 hs;have h2:=Ca r s 0;have h3:=MU â r s 0;unfold dg at h;rw[aku] at h;have h4:bc â r s 0=(i0 r s:Int)-jF r s 0:=by unfold bc aV;rw[z];omega
 unfold cy at h1;omega
def aky(hb:b<n)(h:0≤dg n sm (dec â ϭ) r D (2^b)):0<left.getD ϭ 0:=by
 have h1:=Wh (dec â ϭ) r (2^b) D;unfold dg at h;rw[akv hb] at h;have:dec â ϭ ϭ=((left.getD ϭ 0:Nat):Int)-1:=by unfold dec aV;rw[af rfl]
 omega
section
variable{L:Flags.Locker}{sames left:LN}{r:cf}{D:LN}{s B:Nat}
def nE.sign(c:Ϲ Û D)(h0:0<left.getD s 0)(h:∀g,g<2^sames.length→0≤dg sames.length ü Äf r D g):nE sames (Flags.less1 left s) r D:=by
 refine⟨c.nd,λx hx=>?_,λp hp=>c.bits p (aN _ hp),λp hp=>c.sgn p (aN _ hp),c.sd,by rw[sN h0];exact h⟩;rw[sN h0];have:=c.zS x hx;unfold dec;by_cases oK:x=s
 ·subst oK;rw[cnt_cons] at this;rw[af rfl];omega
 ·rw[FX _ _ (dJ oK)] at this;rw[ah oK];exact this
def nE.same(c:Ϲ Û D){b:Nat}(hb:b<sames.length)(h0:0<left.getD ģ 0)(hs:s∈D)(h:∀g,g<2^sames.length→0≤dg sames.length ü (dec â ģ) r D g):nE sames (Flags.less1 left ģ) r D:=by
 refine⟨c.nd,λx hx=>?_,λp hp=>c.bits p (aN _ hp),λp hp=>c.sgn p (aN _ hp),c.sd,by rw[sN h0];exact h⟩;rw[sN h0];have:=c.zS x hx;have oK:x≠s:=λz=>hx (z▸ hs);rw[FX _ _ (dJ oK)] at this;unfold dec;by_cases sM:x=cj sames b
 ·rw[af sM];have e0:i0 r x=0:=MT λz=>by
   obtain⟨p,hp,e⟩:=cb.mp z;exact c.sgn p (aN _ hp) b hb (by rw[←sM];exact e.symm)
  rw[e0];have:aV left x=((left.getD ģ 0:Nat):Int):=by rw[sM];rfl
  omega
 ·rw[ah sM];exact this
def zT(hL:L.sameKinds=sames)(nd:sames.Nodup)(c:Ϲ Û D)(h0:0<left.getD f 0)(hd:xU (dec â f) r D):L.enough Ē Áj=true↔ ∀g,g<2^sames.length→0≤dg sames.length ü (dec â f) r D g:=by
 have:=V5 hL nd Ē r (λp hp=>c.bits p (aN _ hp)) c.nd (by rw[sN h0];exact hd);rw[sN h0] at this;exact this
def zU(L:Flags.Locker)(sames left:LN)(s B:Nat)(r:cf):Nat:=(((c9 sames (s,B)).sign::if 0<Flags.lacks left (((s,B)::r).map ò) (c9 sames (s,B)).sign then (c9 sames (s,B)).may else []).filter λ(f:Nat)=>decide (0<left.getD f 0)&&L.enough Ē Áj).headD 0
def Wi(h:(decide (0<left.getD s 0)&&L.enough (Flags.less1 left s) Áj)=true):zU L sames left s B r=s:=by
 unfold zU;rw[wo,af (show(decide (0<left.getD (c9 sames (s,B)).sign 0)&&L.enough (Flags.less1 left (c9 sames (s,B)).sign) Áj)=true from h)];rfl
def akz:L.fill (((s,B)::r).map ò) left=zU L sames left s B r::L.fill Áj (Flags.less1 left (zU L sames left s B r)):=rfl
def akA(sames:LN)(st:gZ)(s B:Nat)(row:LI)(P:Nat→Bool):∀bs:LN,(∀b∈bs,nu (jl row st.2 B (2^b))=P ģ)→(∃b∈bs,P ģ=true)→
  ∃b∈bs,uD sames st s B row bs=some (cj sames b,qN st s B (2^b) row)∧P ģ=true∧((bs.map ü).filter P).headD 0=cj sames b:=by
 intro bs;induction bs with
 |nil=>
  intro _ h;obtain⟨b,hb,_⟩:=h;cases hb
 |cons b bs ih=>
  intro he h;have eb:=he b Â;unfold uD;by_cases hp:P ģ=true
  ·rw[eb,af hp];refine⟨b,by simp,rfl,hp,?_⟩;rw[aY,Af hp];rfl
  ·rw[eb,ah hp];obtain⟨x,hx,Wj⟩:=h;have ve:=(bf.mp hx).elim (λz=>absurd (z▸ Wj) hp) id;obtain⟨y,hy,e1,e2,e3⟩:=ih (λz hz=>he z (aN _ hz)) ⟨x,ve,Wj⟩;refine⟨y,aN _ hy,e1,e2,?_⟩;rw[aY,Ag hp];exact e3
def akB(hL:L.sameKinds=sames)(nd:sames.Nodup)(c:Ϲ Û D):
  ∃f,ny sames ę s B=some (f,fj sames.length ü (aV Ē) r D)∧nE sames Ē r D∧zU L sames left s B r=f:=by
 have gj:=c.sgn (s,B) Â;by_cases hs:s∈D
 ·have xW:ny sames ę s B=if nu (jl ((List.range (2^sames.length)).map Áz) (fj sames.length ü â Û D).2 B 0)=true then some (s,qN ę s B 0 ((List.range (2^sames.length)).map Áz))
    else uD sames ę s B ((List.range (2^sames.length)).map Áz) (oy sames.length B):=by
   unfold ny;have:bW (fj sames.length ü â Û D).1 s=some ((List.range (2^sames.length)).map Áz):=(DW (λx=>(List.range (2^sames.length)).map (bc â Û x)) s D).trans (af hs);rw[this]
  rw[Wg hs c.nd gj,aks hs c.nd gj] at xW;have DR:xU Äf r D:=λx hx=>by
   have:=c.zS x hx;have oK:x≠s:=λz=>hx (z▸ hs);rw[FX _ _ (dJ oK)] at this;unfold dec;omega
  by_cases ax:nu ((List.range (2^sames.length)).map (dg sames.length ü Äf r D))=true
  ·rw[af ax] at xW;have ax:=(Cb _ _).mp ax;have h0:=akx hs (ax 0 (Nat.two_pow_pos _));refine⟨s,by rw[xW,sN h0],c.sign h0 ax,Wi ?_⟩;rw[eF h0,(zT hL nd c h0 DR).mpr ax];rfl
  ·rw[ah ax] at xW;have ax:=λz=>ax ((Cb _ _).mpr z);have Wk:¬MP sames.length ü â Û D s B:=λz=>ax λg hg=>by
    rw[V9 (B:=B) hs c.nd gj];exact z g hg
   have hex:=(akd _ _ _ r hs c.all).resolve_left Wk;have vk:∀b∈oy sames.length B,b<sames.length∧B.testBit b=true:=λb hb=>by
    unfold oy at hb;obtain⟨h1,h2⟩:=j3.mp hb;rw[xT] at h2;simp_all
   have MY:∀b,b<sames.length→0<left.getD ģ 0→xU (dec â ģ) r D:=λb hb h0 x hx=>by
    have:=c.zS x hx;have oK:x≠s:=λz=>hx (z▸ hs);rw[FX _ _ (dJ oK)] at this;unfold dec;by_cases sM:x=cj sames b
    ·rw[af sM];have e0:i0 r x=0:=MT λz=>by
      obtain⟨p,hp,e⟩:=cb.mp z;exact c.sgn p (aN _ hp) b hb Ä
     rw[e0];have:aV left x=((left.getD ģ 0:Nat):Int):=by rw[sM];rfl
     omega
    ·omega
   have hP:∀b,b<sames.length→nu (jl ((List.range (2^sames.length)).map Áz) (fj sames.length ü â Û D).2 B (2^b))=(decide (0<left.getD ģ 0)&&L.enough (Flags.less1 left ģ) Áj):=λb hb=>by
    rw[MW hb (FW nd hb) hs c.nd (c.sd b hb),oP,Cb,jq,nI];constructor
    ·intro h;have h0:=aky hb (h (2^b) (Nat.pow_lt_pow_right Ø hb));exact⟨h0,(zT hL nd c h0 (MY b hb h0)).mpr h⟩
    ·rintro⟨h0,h⟩;exact(zT hL nd c h0 (MY b hb h0)).mp h
   obtain⟨b0,hb0,akD⟩:=hex;have vX:b0<sames.length:=by
    refine Xy λz=>?_;have hB:=c.bits (s,B) Â;have:B.testBit b0=false:=C3 (i8 hB (GU Ø z));simp_all
   obtain⟨b,hb,e1,e2,e3⟩:=akA sames ę s B ((List.range (2^sames.length)).map Áz) (λf=>decide (0<left.getD f 0)&&L.enough Ē Áj) (oy sames.length B) (λb hb=>hP b (vk b hb).1)
    ⟨b0,j3.mpr ⟨by simpa using vX,by rw[xT];exact hb0⟩,by
     rw[←hP b0 vX,MW vX (FW nd vX) hs c.nd (c.sd b0 vX),Cb];intro g hg;rw[Wa (B:=B) vX (FW nd vX) hs c.nd (c.sd b0 vX)];exact akD g hg⟩
   have jS:=(vk b hb).1;have e2:=e2;have zV:=e2;rw[jq,nI] at zV;have jh:=(zT hL nd c zV.1 (MY b jS zV.1)).mp zV.2;refine⟨cj sames b,?_,c.same jS zV.1 hs jh,?_⟩
   ·rw[xW,e1,akt jS (FW nd jS) hs c.nd (c.sd b jS),sN zV.1]
   ·have hnp:¬(decide (0<left.getD (c9 sames (s,B)).sign 0)&&L.enough (Flags.less1 left (c9 sames (s,B)).sign) Áj)=true:=λz=>by
     have z:=z;rw[jq,nI] at z;exact ax ((zT hL nd c z.1 DR).mp z.2)
    have akF:0<Flags.lacks left (((s,B)::r).map ò) (c9 sames (s,B)).sign:=by
     refine ao6 λz=>Wk λg hg=>?_;have z:Flags.lacks left (((s,B)::r).map ò) s=0:=z;rw[V3] at z;have h1:=Ca r s g;have h2:=uJ â r s B g;have h3:=c.all g hg;have h4:bc â r s g+1≤0:=by
      rw[cnt_cons] at z;unfold bc aV;omega
     have h5:=MX (bc â Û s g);rw[h2] at h5⊢;rw[show bc â r s g+1-oZ g B+oZ g B=bc â r s g+1 by omega];have h6:cy (bc â r s g+1)=0:=by unfold cy;rw[ah Ä]
     omega
    unfold zU;rw[wo,ah hnp,af akF];exact e3
 ·have xW:ny sames ę s B=some (s,fj sames.length ü â Û D):=by
   unfold ny;have:bW (fj sames.length ü â Û D).1 s=none:=(DW (λx=>(List.range (2^sames.length)).map (bc â Û x)) s D).trans (ah hs);simp_all
  have h0:0<left.getD s 0:=by
   have:=c.zS s hs;rw[cnt_cons] at this;unfold aV at this;omega
  have jh:∀g,g<2^sames.length→0≤dg sames.length ü Äf r D g:=λg hg=>by
   rw[Wb (B:=B) hs gj];exact c.all g hg
  have cs:=c.sign h0 jh;refine⟨s,by rw[xW,sN h0,akr hs gj],cs,Wi ?_⟩;have hd:=cs.zS;rw[sN h0] at hd;rw[eF h0,(zT hL nd c h0 hd).mpr jh];rfl
end
section
variable{L:Flags.Locker}{sames:LN}{D:LN}
def akG(hL:L.sameKinds=sames)(nd:sames.Nodup)(l:cf):∀(bG:cf)(left:LN),Ϲ (l++bG) D→
  ∃fs xX,nB sames (fj sames.length ü â (l++bG) D) l=some (fs,fj sames.length ü (aV xX) bG D)∧nE sames xX bG D∧L.fill ((l++bG).map ò) left=fs++L.fill (bG.map ò) xX:=by
 induction l with
 |nil=>exact @λbG left c=>⟨[],left,rfl,c,rfl⟩
 |cons hd0 l ih=>
  obtain⟨s,B⟩:=hd0;intro bG left c;obtain⟨f,e1,c1,e2⟩:=akB hL nd (show nE sames left ((s,B)::(l++bG)) D from c);obtain⟨fs,xX,e3,c2,e4⟩:=ih bG Ē c1;refine⟨f::fs,xX,?_,c2,?_⟩
  ·unfold nB;have e1:ny sames (fj sames.length ü â ((s,B)::l++bG) D) (s,B).1 (s,B).2=some (f,fj sames.length ü (aV Ē) (l++bG) D):=e1;rw[e1];dsimp only;rw[e3]
  ·have:=akz (L:=L) (sames:=sames) (left:=left) (r:=l++bG) (s:=s) (B:=B);rw[e2,e4] at this;exact this
def akH(hL:L.sameKinds=sames)(nd:sames.Nodup)(ps:List cf):∀(left:LN),Ϲ ps.flatten D→
  ∃x,l9 sames (fj sames.length ü â ps.flatten D) ps=some x∧L.fill (ps.flatten.map ò) left=x.1.flatten:=by
 induction ps with
 |nil=>exact @λleft c=>⟨_,rfl,rfl⟩
 |cons p ps ih=>
  intro left c;obtain⟨fs,xX,e1,c1,e2⟩:=akG hL nd p ps.flatten left c;obtain⟨x,e3,e4⟩:=ih xX c1;refine⟨(fs::x.1,x.2),?_,?_⟩
  ·unfold l9;rw[OO,e1];dsimp only;rw[e3]
  ·rw[OO,e2,e4];rfl
end
theorem akI:∀hs:bq,Flags.pieces (hs.map List.length) hs.flatten=hs:=by
 intro hs;induction hs with
 |nil=>exact rfl
 |cons h hs ih=>
  rw[aY,OO];unfold Flags.pieces;rw[List.take_left,List.drop_left,ih]
theorem yQ{β:Type}{t:List (Nat×β)}(nd:(t.map (·.1)).Nodup){p:Nat×β}(h:p∈t):bW t p.1=some p.2:=by
 induction t with
 |nil=>cases h
 |cons x t ih=>
  obtain⟨hx,nd⟩:=j4.mp nd;unfold bW;rcases bf.mp h with rfl|h
  ·simp
  ·have:x.1≠p.1:=λz=>hx Ç;rw[ao5 Ç];exact ih nd h
theorem akJ(l:cf)(s g:Nat):((qK g ((l.filter λp=>decide (p.1=s)).map (·.2)):Nat):Int)=jF l s g:=by
 unfold qK jF;generalize l.filter (λp=>decide (p.1=s))=M;induction M with
 |nil=>rfl
 |cons p M ih=>
  rw[aY,aY,gM,←ih];unfold oZ jV;grind
theorem Wl(l:cf)(s:Nat):i0 l s=(l.map (·.1)).count s:=by
 unfold i0;induction l with
 |nil=>rfl
 |cons p l ih=>
  rw[aY,List.count_cons];by_cases h:p.1=s
  ·rw[Af (by simpa using h),cZ,ih];simp[h]
  ·rw[Ag (by simpa using h),ih];simp[h]
theorem akK(G:Nat)(h:Nat→Nat→Int)(D:LN):∀(f:Nat→Int),qM G ((List.range G).map f) (D.map λs=>(s,(List.range G).map (h s)))=(List.range G).map λg=>f g-(D.map λs=>cy (h s g)).sum:=by
 induction D with
 |nil=>exact @λf=>oJ λg _=>by rw[lE,List.sum_nil];omega
 |cons s D ih=>
  intro f;have e:xK G ((List.range G).map f) ((List.range G).map (h s))=(List.range G).map λg=>f g-cy (h s g):=by
   unfold xK;exact oJ λg hg=>by rw[V6 f hg,V6 _ hg]
  rw[aY];show qM G (xK G ((List.range G).map f) ((List.range G).map (h s))) _=_;rw[e,ih];exact oJ λg _=>by rw[aY,gM];omega
abbrev jn(ms:aF):LN:=ms.map λm=>m.copies.toNat
theorem FY{ms:aF}(hc:∀m∈ms,0≤m.copies)(s:Nat):sj ms s=aV (jn ms) s:=by
 unfold sj aV jn;cases e:ms[s]? with
 |none=>
  rw[iQ,iQ,bX,e];rfl
 |some m=>
  rw[iQ,iQ,bX,e];have:=hc m (bY e);show m.copies=((m.copies.toNat:Nat):Int);omega
theorem akL(hc:∀m∈ms,0≤m.copies)(sames:LN)(g:Nat):qL ms sames g=i3 sames.length ü Ņ g:=by
 unfold qL qJ i3;generalize List.range sames.length=M;induction M with
 |nil=>rfl
 |cons b M ih=>
  have e:=FY hc ģ;unfold sj at e;rw[aY,gM,←ih];by_cases h:xH g b=true
  ·rw[Af h,aY,gM,af (by rw[←xT];exact h),e]
  ·rw[Ag h,ah (by rw[←xT];exact h),XI]
def MZ(rows lD:bq):(ma rows lD).flatten=eT rows lD:=by
 rfl
def nF(ms:aF)(rows:bq):LN:=(jk ms rows.flatten).map (·.1)
def M0(ms:aF)(rows:bq):(eT rows ń).map (·.1)=rows.flatten:=UC rows ń (UD ms rows) (Mh ms rows)
def akM(h:p∈jk ms flat):p.2=(flat.count p.1:Int)-sj ms p.1:=by
 unfold jk at h;obtain⟨q,hq,e⟩:=Oh.mp h;unfold ot at e;split at e
 ·have e:=(aO e).symm;subst e;have h1:=yQ (E6 flat) hq;have h2:=TJ flat q.1;simp_all
 ·cases e
def akN(hc:∀m∈ms,0≤m.copies)(h:s∉(jk ms flat).map (·.1)):(flat.count s:Int)≤sj ms s:=by
 by_cases hs:flat.contains s=true
 ·have h1:=TQ flat s;rw[hs] at h1;obtain⟨n,hn⟩:=Gs.mp h1;have h2:=TJ flat s;rw[hn] at h2;have h2:=h2;have hq:(s,n)∈gn flat:=by
   unfold bW at hn;cases e:(gn flat).find? λp=>decide (p.1=s) with
   |none=>simp_all
   |some q=>
    grind
  refine Int.not_lt.mp λz=>h ?_;refine cb.mpr ⟨(s,(n:Int)-sj ms s),?_,rfl⟩;unfold jk;refine Oh.mpr ⟨(s,n),hq,?_⟩;unfold ot;simp_all
 ·have:flat.count s=0:=List.count_eq_zero.mpr (λz=>hs Ç);rw[this,FY hc];unfold aV;omega
def M3(hc:∀m∈ms,0≤m.copies)(rows:bq):oA ms rows=fj (aX ms).length Çn Ņ ö Ŵ:=by
 have eg:BY ms rows=(nF ms rows).map λs=>(s,(List.range (2^(aX ms).length)).map (bc Ņ ö s)):=by
  unfold BY nt nF;rw[cO];apply j6;intro p hp;congr 1;unfold Fc;refine oJ λg _=>?_;rw[TZ,akJ,akM hp,FY hc];unfold bc;rw[Wl,M0]
 unfold oA;rw[eg];unfold fj;congr 1;have ec:(List.range (2^(aX ms).length)).map (qL ms ĥ)=(List.range (2^(aX ms).length)).map (i3 (aX ms).length Çn Ņ):=oJ λg _=>akL hc _ g;rw[ec,akK];rfl
end HD
end
section
namespace HD
open PySem L2 JM
def Wm{L:Flags.Locker}{ms:aF}(hk:L.kinds=ms.map bU){i:Nat}(hi:i<ms.length):L.kinds[i]? =some (bU ϔ):=by
 simp_all
def Wn{L:Flags.Locker}{ms:aF}(hk:L.kinds=ms.map bU){i:Nat}(hi:i<ms.length):(L.kinds[i]?).map Flags.Kind.role=some (pK ϔ):=by
 rw[Wm hk hi];rfl
def M4{L:Flags.Locker}{ms:aF}(hk:L.kinds=ms.map bU):L.sameKinds=aX ms:=by
 unfold Flags.Locker.sameKinds aX;have hl:L.kinds.length=ms.length:=by rw[hk,aA]
 rw[hl];apply XR;intro i hi;have hi:i<ms.length:=by simpa using hi
 rw[Wn hk hi];unfold pK;by_cases h0:(ms.getD i fg).role=0
 ·rw[af h0,h0];rfl
 ·rw[ah h0];by_cases h1:(ms.getD i fg).role=1
  ·rw[af h1,h1];rfl
  ·rw[ah h1,fC h1]
def akO{L:Flags.Locker}{ms:aF}(hk:L.kinds=ms.map bU){s:Nat}(hs:s∈aX ms):L.points s=(kI ms s).toNat:=by
 unfold aX at hs;obtain⟨h1,h2⟩:=j3.mp hs;simp at h1;have h2:(ms.getD s fg).role=1:=by simpa using h2
 unfold Flags.Locker.points;rw[Wn hk h1];unfold pK;rw[ah Ä,af h2];rfl
theorem akP(P:Nat→Bool)(l:LN):l.filter P=((List.range l.length).filter λb=>P (l.getD b 0)).map λb=>l.getD b 0:=by
 induction l with
 |nil=>exact rfl
 |cons x l ih=>
  have ih:=ih;rw[cZ,CJ,wo,wo,yf];have e:((λb=>P ((x::l).getD b 0))∘Nat.succ)=λb=>P (l.getD b 0):=rfl;rw[e];by_cases h:P x=true
  ·rw[af h,af (show P ((x::l).getD 0 0)=true from h),aY,cO,ih];rfl
  ·rw[ah h,ah (show ¬P ((x::l).getD 0 0)=true from h),cO,ih];rfl
def Wo(ms:aF)(sames row:LN)(i:Nat):si ms sames row i=uK (zr ms sames row i) sames.length:=rfl
def akQ{L:Flags.Locker}{ms:aF}(hk:L.kinds=ms.map bU)(mo:vS ms)(row:LN)(i:Nat):
  c9 ĥ (row.getD i 0,si ms ĥ row i)=⟨row.getD i 0,L.sameKinds.filter λ(f:Nat)=>decide (L.points f≤i)&&row.getD (L.points f-1) 0==row.getD i 0⟩:=by
 unfold c9;dsimp only;congr 1;rw[M4 hk,akP];congr 1;unfold oy;apply XR;intro b hb;have hb:b<(aX ms).length:=by simpa using hb
 have hm:(aX ms).getD b 0∈aX ms:=by
  rw[iQ,dm hb];exact List.getElem_mem hb
 rw[xT,Wo,V2,eF hb,lF,akO hk hm];have hp:=mo.pos _ hm;unfold zr;have e1:decide (kI ms ((aX ms).getD b 0)≤(i:Int))=decide ((kI ms ((aX ms).getD b 0)).toNat≤i):=by
  rw[XO];omega
 rw[e1,Bool.beq_eq_decide_eq]
theorem Wp{L:Flags.Locker}{ms:aF}(hk:L.kinds=ms.map bU)(mo:vS ms):∀rows:bq,L.spots rows=(eT rows ń).map (c9 ĥ):=by
 intro rows;induction rows with
 |nil=>exact rfl
 |cons r rows ih=>
  have ih:=ih;unfold Flags.Locker.spots eT fw at ih⊢;rw[CZ,ih,aY,CI,CZ,bV];congr 1;unfold pP;have e:r=(List.range r.length).map λi=>r.getD i 0:=by
   have:=vN (l:=r) (g:=λx=>x) (d:=0);rw[List.map_id'] at this;exact this.symm
  have e2:r.zip ((List.range r.length).map (si ms ĥ r))=(List.range r.length).map λi=>(r.getD i 0,si ms ĥ r i):=by
   apply wm;intro i;by_cases hi:i<r.length
   ·rw[bX,OK hi,GV.mpr (show r[i]? =some (r.getD i 0,si ms ĥ r i).1∧((List.range r.length).map (si ms ĥ r))[i]? =some (r.getD i 0,si ms ĥ r i).2 from Áf)]
    ·rfl
    ·rw[iQ,dm hi];rfl
    ·rw[bX,OK hi];rfl
   ·rw[yd (by rw[List.length_zip];omega),yd (by rw[aA,gX];omega)]
  rw[e2,cO];apply j6;intro i _;exact(akQ hk mo r i).symm
def Wq(ms:aF):(aX ms).Nodup:=List.Nodup.sublist ao7 XQ
structure vY(ms:aF):Prop where
 mo:vS ms
 cp:∀m∈ms,0≤m.copies
def zW(ms:aF)(rows:bq):Prop:=∀r∈rows,∀s∈r,jD ms s=true
def Wr(h:jD ms s=true):s∉aX ms:=λz=>by
 unfold aX at z;have z:(ms.getD s fg).role=1:=by simpa using (j3.mp z).2
 have h:(ms.getD s fg).role=0:=by unfold jD at h;simpa using h
 omega
def Ws(ms:aF)(rows:bq):∀p∈eT rows ń,p.2<2^(aX ms).length:=λp hp=>by
 unfold eT fw at hp;obtain⟨q,hq,hp⟩:=j7.mp hp;have h1:=(CH hq).2;obtain⟨r,_,e⟩:=cb.mp h1;have h2:=(CH hp).2;rw[←e] at h2;unfold pP at h2;obtain⟨i,_,e2⟩:=cb.mp h2;rw[←e2,Wo];exact MS _ _
def Wt(g:vY ms)(rows:bq):xU Ņ ö Ŵ:=λs hs=>by
 rw[Wl,M0,←FY g.cp];exact akN g.cp hs
def akR(g:vY ms)(sg:zW ms rows)(h:∀q,q<2^(aX ms).length→0≤dg (aX ms).length Çn Ņ ö Ŵ q):nE ĥ (jn ms) ö Ŵ:=by
 have ir:∀b,b<(aX ms).length→cj ĥ b∈aX ms:=λb hb=>by
  simp_all
 have jR:∀s∈rows.flatten,jD ms s=true:=λs hs=>by
  obtain⟨r,hr,hs⟩:=List.mem_flatten.mp hs;exact sg r hr s hs
 refine⟨Mi _ _,Wt g rows,Ws ms rows,λp hp b hb e=>?_,λb hb hz=>?_,h⟩
 ·have h1:p.1∈rows.flatten:=by rw[←M0 ms rows];exact cb.mpr ⟨p,hp,rfl⟩
  exact Wr (jR _ h1) (e▸ ir b hb)
 ·unfold nF at hz;obtain⟨q,hq,e⟩:=cb.mp hz;exact Wr (jR _ (UE hq)) Ç
def FZ{L:Flags.Locker}{ms:aF}(hk:L.kinds=ms.map bU)(g:vY ms)(rows:bq):L.enough L.allCopies (L.spots rows)=true↔ ∀q,q<2^(aX ms).length→0≤dg (aX ms).length Çn Ņ ö Ŵ q:=by
 rw[Wp hk g.mo,show L.allCopies=jn ms by unfold Flags.Locker.allCopies jn;rw[hk,cO];rfl];exact V5 (M4 hk) (Wq ms) _ _ (Ws ms rows) (Mi _ _) (Wt g rows)
def Wu(g:vY ms)(rows:bq):(oA ms rows).2.any (λz=>decide (z<0))=false↔ ∀q,q<2^(aX ms).length→0≤dg (aX ms).length Çn Ņ ö Ŵ q:=by
 rw[M3 g.cp];have:=Cb (dg (aX ms).length Çn Ņ ö Ŵ) (2^(aX ms).length);rw[←this];unfold nu fj;simp
def M5{L:Flags.Locker}{ms:aF}(hk:L.kinds=ms.map bU)(g:vY ms){rows:bq}(sg:zW ms rows):nD ms rows=some (if L.canShowAll rows=true then some (L.displayed rows) else none):=by
 have g8:(∀q,q<2^(aX ms).length→0≤dg (aX ms).length Çn Ņ ö Ŵ q)→∃x,l9 ĥ Æc Ãg=some x∧x.1.map List.length=rows.map List.length∧L.displayed rows=x.1:=λh=>by
  have c:=akR g sg h;rw[←MZ] at c;obtain⟨x,e1,e2⟩:=akH (L:=L) (M4 hk) (Wq ms) Ãg (jn ms) c;rw[MZ,←M3 g.cp] at e1;rw[MZ,←Wp hk g.mo] at e2;have hl:x.1.map List.length=rows.map List.length:=by
   rw[Vj _ _ _ _ e1];unfold ma fw;rw[cO];apply wm;intro i;rw[bX,bX,XM,bX];cases er:rows[i]? with
   |none=>simp_all
   |some r=>
    rw[GV.mpr (show rows[i]? =some (r,r).1∧rows[i]? =some (r,r).2 from⟨er,er⟩)];unfold pP;simp
  refine⟨x,e1,hl,?_⟩;have ee:=(FZ hk g rows).mpr h;unfold Flags.Locker.displayed Flags.Locker.display;rw[af ee,show L.allCopies=jn ms by unfold Flags.Locker.allCopies jn;rw[hk,cO];rfl,e2,←hl];exact akI x.1
 have ec:L.canShowAll rows=L.enough L.allCopies (L.spots rows):=rfl;unfold nD;by_cases hl:jk ms rows.flatten=[]
 ·rw[af hl];have hK:nF ms rows=[]:=by unfold nF;rw[hl];rfl
  have h:∀q,q<2^(aX ms).length→0≤dg (aX ms).length Çn Ņ ö Ŵ q:=λq _=>by
   rw[hK];unfold dg iM i3;rw[lE,List.sum_nil,Int.sub_zero];generalize List.range (aX ms).length=M;induction M with
   |nil=>simp
   |cons b M ih=>
    rw[aY,gM];have:(0:Int)≤if q.testBit b=true then aV (jn ms) (cj ĥ b) else 0:=by
     unfold aV;omega
    omega
  obtain⟨x,e1,_,e2⟩:=g8 h;have en:l9 ĥ Æc Ãg=some ((ma rows ń).map (λp=>p.map (·.1)),oA ms rows):=by
   have h1:∀(l:cf)(st:gZ),st.1=[]→nB ĥ st l=some (l.map (·.1),st):=by
    intro l;induction l with
    |nil=>intro st _;rfl
    |cons p l ih=>
     intro st qh;unfold nB ny;rw[qh,show bW ([]:List (Nat×LI)) p.1=none from rfl];grind
   have h2:∀(ps:List cf)(st:gZ),st.1=[]→l9 ĥ st ps=some (ps.map (λp=>p.map (·.1)),st):=by
    intro ps;induction ps with
    |nil=>intro st _;rfl
    |cons p ps ih=>
     intro st qh;unfold l9;grind
   refine h2 _ _ ?_;rw[M3 g.cp,hK];rfl
  have ex:x.1=rows:=by
   rw[en] at e1;rw[←aO e1];unfold ma fw;rw[cO];apply wm;intro i;rw[bX,XM,bX];cases er:rows[i]? with
   |none=>simp_all
   |some r=>
    rw[GV.mpr (show rows[i]? =some (r,r).1∧rows[i]? =some (r,r).2 from⟨er,er⟩)];show some ((r.zip (pP ms ĥ r)).map (·.1))=some r;rw[List.map_fst_zip (by unfold pP;rw[aA,gX];exact bO _)]
  rw[ec,af ((FZ hk g rows).mpr h),e2,ex]
 ·rw[ah hl];by_cases ha:(oA ms rows).2.any (λz=>decide (z<0))=true
  ·rw[af ha,ec,ah (λz=>?_)];have:=(Wu g rows).mpr ((FZ hk g rows).mp z);simp_all
  ·rw[ah ha];have h:=(Wu g rows).mp Ç;obtain⟨x,e1,_,e2⟩:=g8 h;rw[e1,ec,af ((FZ hk g rows).mpr h),e2];rfl
structure qT(ms:aF):Prop where
 kv:∀m∈ms,Kv m
 pw:ms.Pairwise λp x=>iF p x=true
 nm:(ms.filter isSign).Pairwise λa b=>a.name≠b.name
def M6(h8:a0 t)(h:fQ t=some x):qT x.2:=by
 unfold fQ at h;split at h
 ·rename_i l r e;cases e1:fc (codes "locker") l with
  |none=>rw[e1,Bs] at h;cases h
  |some n=>
   cases e2:gC r with
   |none=>rw[e2,Br] at h;cases h
   |some ms=>
    rw[e1,e2] at h;have h:(if (m9 ms&&oh ms)=true then some (n,ms) else none)=some x:=h;split at h
    ·rename_i ho;have:=aO h;subst this;have hr:=λw hw=>by
      unfold jz at e;split at e
      ·have e:=aO e;have:w∈(aI 10 t).dropLast:=by rw[e];exact aN _ hw
       exact pz 10 h8 w (Ad _ this)
      ·simp_all
     have kv:=Le hr e2;obtain⟨ho,hd⟩:=uQ.mp ho;refine⟨kv,?_,?_⟩
     ·unfold m9 at ho;split at ho
      ·simp_all
      ·exact(Lf kv).mp ho
     ·unfold oh at hd;obtain⟨hd,_⟩:=uQ.mp hd;simp at hd;have:=Lg.mp hd;rw[OM] at this;refine this.imp λ{a b}ng e=>?_;rw[Lh,eF e] at ng;simp_all
    ·simp_all
 ·cases h
theorem Wv:∀{l:LI}{lo hi:Int},l.Pairwise (· < ·)→(∀x∈l,lo≤x∧x≤hi)→l≠[]→(l.length:Int)≤hi-lo+1
 |[],_,_,_,_,h=>absurd rfl h
 |[x],lo,hi,_,h,_=>by
  have:=h x Â;simp only[List.length_singleton];omega
 |x::y::l,lo,hi,pw,h,_=>by
  obtain⟨h1,h2⟩:=GT.mp pw;have hx:=h x Â;have:=Wv (l:=y::l) (lo:=x+1) (hi:=hi) h2 (λz hz=>⟨by have:=h1 z hz;omega,(h z (aN _ hz)).2⟩) Â;rw[cZ];omega
def akS{ms:aF}(f:qT ms):(aX ms).length≤4:=by
 by_cases hn:aX ms=[]
 ·rw[hn];decide
 have M7:∀i∈aX ms,i<ms.length∧(ms.getD i fg).role=1:=λi hi=>by
  unfold aX at hi;obtain⟨h1,h2⟩:=j3.mp hi;exact⟨by simpa using h1,by simpa using h2⟩
 have sO:∀i,i<ms.length→ms[i]? =some ϔ:=λi hi=>by
  rw[iQ,dm hi];rfl
 have jf:=λi hi=>bY (sO i hi);have bJ:(aX ms).Pairwise (· < ·):=by
  unfold aX;exact List.Pairwise.sublist ao7 List.pairwise_lt_range
 have hw:((aX ms).map (kI ms)).Pairwise (· < ·):=by
  rw[OM];refine List.Pairwise.imp_of_mem (λ{i j}hi hj E9=>?_) bJ;obtain⟨i1,i2⟩:=M7 i hi;obtain⟨j1,j2⟩:=M7 j hj;have hf:=(pw_place.mp f.pw) j _ (sO j j1) ϔ (by
   refine bY (i:=i) ?_;rw[Xo E9,sO i i1])
  have:=(vK (f.kv _ (jf i i1)) (f.kv _ (jf j j1)) j2).mp hf;unfold kI;rcases this with h|h
  ·omega
  ·exact h.2
 have:=Wv (lo:=1) (hi:=4) hw (λz hz=>by
  obtain⟨i,hi,rfl⟩:=cb.mp hz;obtain⟨i1,i2⟩:=M7 i hi;exact(f.kv _ (jf i i1)).Bw i2) (by simpa using hn)
 rw[aA] at this;omega
def M8(f:qT ms):vY ms:=by
 refine⟨⟨by have:=akS f;omega,λs hs=>?_⟩,λm hm=>by have:=(f.kv m hm).cp;omega⟩;unfold aX at hs;obtain⟨h1,h2⟩:=j3.mp hs;simp at h1;simp at h2;have hm:ms.getD s fg∈ms:=by
  simp_all
 exact((f.kv _ hm).Bw h2).1
def akT(h8:a0 t)(h:fQ t=some x):FM x.2:=by
 have f:=M6 h8 h;have g:=M8 f;refine⟨λk hk=>(f.kv k hk).lk,g.mo,λrows sg=>?_⟩;rw[M5 (L:=⟨[],x.2.map bU⟩) rfl g sg];simp
def Ww(x:Str)(s:String)(hx:a0 Ş)(hs:(codes x).map B=Flags.ascii s)(h:a0 l):Flags.wordName (Flags.ascii s) ĵ=(fc Ş l).map λn=>n.map B:=by
 unfold Flags.wordName fc;rw[show Flags.cutAt 32 ĵ=(aI 32 l).map ç from xj 32 Ø l h];have h8:=pz 32 (l:=l) h;generalize aI 32 l=ws at h8
 match ws,h8 with
 |[],_=>rfl
 |[a],_=>rfl
 |[a,b],h8=>
  have ea:a.map B=Flags.ascii s↔a=codes x:=by
   rw[←hs];exact⟨λe=>vq (h8 a Â) hx e,λe=>by rw[e]⟩
  show(if a.map B=Flags.ascii s∧Flags.isName ş=true then some ş else none)=Option.map _ (if a=codes x∧iD b=true then some b else none);rw[ER (h8 b Â)];by_cases c:a=codes x∧iD b=true
  ·rw[af c,af ⟨ea.mpr c.1,c.2⟩];rfl
  ·rw[ah c,ah (λz:_∧_=>c ⟨ea.mp z.1,z.2⟩)];rfl
 |a::b::c::r,_=>rfl
def wF(l:LI):Bool:=!(aI 32 l).contains []
def wG(l:LI):Bool:=!((aI 32 l).drop 1).contains []
def Wx(x:Int)(r:LI):wF (x::r)=(decide (x≠32)&&wG r):=by
 unfold wF wG;show(!(if x=32 then []::aI 32 r else match aI 32 r with|[]=>[[x]]|w::l=>(x::w)::l).contains [])=_;by_cases h:x=32
 ·rw[af h,fC (λz=>z h),kW];simp
 ·rw[ah h,eF h,lF];cases e:aI 32 r with
  |nil=>exact absurd e (lp 32 r)
  |cons w l=>
   simp
def akU(y:Int)(r:LI):wG (y::r)=if y=32 then wF r else wG r:=by
 unfold wF wG;show(!((if y=32 then []::aI 32 r else match aI 32 r with|[]=>[[y]]|w::l=>(y::w)::l).drop 1).contains [])=_;by_cases h:y=32
 ·rw[af h,af h];rfl
 ·rw[ah h,ah h];cases e:aI 32 r with
  |nil=>exact absurd e (lp 32 r)
  |cons w l=>rfl
def kB(l:List UInt8):Bool:=l.getLast? !=some 32&&Flags.noTwoBlanks l
def Cc(h:0≤x∧x≤255):(B x==32)=decide (x=32):=by
 have:=Bu (p:=λx=>decide ((B x==32)=decide (x=32))) È h;simp_all
def Wy(x y:Int)(hx:0≤x∧x≤255)(hy:0≤y∧y≤255)(r:List UInt8):kB (B x::B y::r)=(!(decide (x=32)&&decide (y=32))&&kB (B y::r)):=by
 unfold kB;rw[show Flags.noTwoBlanks (B x::B y::r)=(!(B x==32&&B y==32)&&Flags.noTwoBlanks (B y::r)) from rfl,Cc hx,Cc hy,List.getLast?_cons_cons];cases (decide (x=32)&&decide (y=32)) <;> cases ((B y::r).getLast? !=some 32) <;> simp
def Wz(x:Int)(hx:0≤x∧x≤255):kB [B x]=decide (x≠32):=by
 unfold kB;rw[show Flags.noTwoBlanks [B x]=true from rfl,OL];have:=Cc hx;show(some (B x)!=some 32)=_;by_cases h:x=32
 ·rw[h];decide
 ·rw[eF h];rw[fC h] at this;have h2:B x≠32:=by simpa using this
  simpa using h2
theorem M9:∀(n:Nat)(r:LI)(x:Int),r.length≤n→a0 (x::r)→x≠32→kB ((x::r).map B)=wG r
 |_,[],x,_,h,hx=>by
  rw[aY,lE,Wz x (h x Â),eF hx];rfl
 |0,y::r,x,hl,_,_=>absurd hl Â
 |n+1,y::r,x,hl,h,hx=>by
  have h8x:=h x Â;have Na:=h y Â;simp at hl;rw[aY,aY,Wy x y h8x Na,fC hx,kW,akU];by_cases hy:y=32
  ·rw[af hy];cases r with
   |nil=>
    rw[lE,Wz y Na,fC (λz=>z hy)];rfl
   |cons z r=>
    have h8z:=h z Â;rw[aY,Wy y z Na h8z,eF hy,lF,Wx];by_cases hz:z=32
    ·rw[eF hz,fC (λw=>w hz)];rfl
    ·rw[fC hz,eF hz,lF];exact M9 n r z (by simp only[cZ] at hl;omega) (λw hw=>h w (aN _ (aN _ hw))) hz
  ·rw[ah hy];exact M9 n r y hl (λw hw=>h w (aN _ hw)) hy
def akX{l:LI}(h:a0 l):Flags.isMeaning ĵ=sD l:=by
 have em:sD l=(!(decide (l.length>64)||(aI 32 l).contains [])&&l.all λb=>decide (32≤b)&&decide (b≤126)):=rfl;have ew:(aI 32 l).contains []=!wF l:=by unfold wF;rw[OQ]
 rw[em,ew];unfold Flags.isMeaning;rw[aA,qX];have ea:l.all ((λ(c:UInt8)=>decide (32≤c.toNat)&&decide (c.toNat≤126))∘B)=l.all λb=>decide (32≤b)&&decide (b≤126):=IZ h λx hx=>by
  have:=Bu (p:=λx=>decide ((decide (32≤(B x).toNat)&&decide ((B x).toNat≤126))=(decide (32≤x)&&decide (x≤126)))) È hx;simpa using this
 rw[ea];cases l with
 |nil=>rfl
 |cons x r=>
  rw[Wx];have hk:(((x::r).map B).head? !=some 32)=decide (x≠32):=by
   have:=Cc (h x Â);show(some (B x)!=some 32)=_;by_cases hx:x=32
   ·rw[hx];decide
   ·rw[eF hx];rw[fC hx] at this;have h2:B x≠32:=by simpa using this
    simpa using h2
  have e1:decide (1≤(x::r).length)=true:=eF Â;have e2:decide ((x::r).length>64)=!decide ((x::r).length≤64):=by
   generalize (x::r).length=n;by_cases hn:n≤64
   ·rw[eF hn,fC Ä];rfl
   ·rw[fC hn,eF Ä];rfl
  rw[hk,e1,e2,lF];have vZ:decide (x≠32)=true→kB ((x::r).map B)=wG r:=λhx=>M9 r.length r x (bO _) h (qZ hx);unfold kB at vZ;generalize (((x::r).map B).getLast? !=some 32)=p1 at vZ⊢;generalize Flags.noTwoBlanks ((x::r).map B)=p2 at vZ⊢;generalize (x::r).all (λb=>decide (32≤b)&&decide (b≤126))=p3;generalize decide ((x::r).length≤64)=p4;generalize wG r=p5 at vZ⊢;generalize decide (x≠32)=p6 at vZ⊢;cases p6
  ·cases p1 <;> cases p2 <;> cases p3 <;> cases p4 <;> cases p5 <;> rfl
  ·have vZ:=vZ rfl;subst vZ;cases p1 <;> cases p2 <;> cases p3 <;> cases p4 <;> rfl
def akY(h:iE line=some m)(h0:m.role=0):iD m.name=true:=by
 unfold iE oa at h;generalize aI 32 line=ws at h;split at h
 ·cases h
 ·rename_i r er;by_cases hl:ws.length=(if r=2 then 4 else 5)
  ·rw[af hl] at h;cases e1:lr r Ŋ with
   |none=>rw[e1,ED] at h;cases h
   |some n=>
    cases e2:qE r Ŋ with
    |none=>rw[e2,EE] at h;cases h
    |some wh=>
     cases e3:iq (ws.getD (ws.length-3) []) 8 with
     |none=>rw[e3,K0] at h;cases h
     |some c=>
      cases e4:bw û (ws.getD (ws.length-2) []) with
      |none=>rw[e4,EF] at h;cases h
      |some sh=>
       cases e5:ib (ws.getD (ws.length-1) []) with
       |none=>rw[e5,EG] at h;cases h
       |some lk=>
        rw[e1,e2,e3,e4,e5] at h;have:=aO h;subst this;have h0:=h0;unfold lr at e1;grind
  ·simp_all
theorem akZ{r:dc}:∀{ms:aF},gC r=some ms→∀m∈ms,m.role=0→iD m.name=true:=by
 induction r with
 |nil=>
  intro ms h m hm;have:=aO h;subst this;exact absurd hm Â
 |cons l r ih=>
  intro ms h m hm;unfold gC at h;cases e1:iE l with
  |none=>rw[e1] at h;cases gC r <;> cases h
  |some k=>
   rw[e1] at h;cases e2:gC r with
   |none=>rw[e2] at h;cases h
   |some ks=>
    rw[e2] at h;have:=aO h;subst this;rcases bf.mp hm with rfl|hm
    ·exact akY e1
    ·exact ih e2 m hm
def ak0{t:LI}{x:LI×aF}(h:fQ t=some x):∀m∈x.2,m.role=0→iD m.name=true:=by
 unfold fQ at h;split at h
 ·rename_i l r e;cases e1:fc (codes "locker") l with
  |none=>rw[e1,Bs] at h;cases h
  |some n=>
   cases e2:gC r with
   |none=>rw[e2,Br] at h;cases h
   |some ms=>
    rw[e1,e2] at h;have h:(if (m9 ms&&oh ms)=true then some (n,ms) else none)=some x:=h;split at h
    ·have:=aO h;subst this;exact akZ e2
    ·simp_all
 ·cases h
def oN(name:LI)(m:gS):Bool:=decide (m.role=0)&&decide (m.name=name)
def ak1{L:Flags.Locker}{ms:aF}(hk:L.kinds=ms.map bU)(f:qT ms){name:LI}(h8:a0 name):L.find Ãf=ms.findIdx? (oN name):=by
 unfold Flags.Locker.find;rw[hk,List.findIdx?_map];have:∀l:aF,(∀m∈l,Kv m)→l.findIdx? ((λ(k:Flags.Kind)=>k.role== .sign Ãf)∘bU)=l.findIdx? (oN name):=by
  intro l;induction l with
  |nil=>intro _;rfl
  |cons m l ih=>
   intro kv;have km:=kv m Â;have e:((λ(k:Flags.Kind)=>k.role== .sign Ãf)∘bU) m=oN name m:=by
    show((bU m).role== .sign Ãf)=_;unfold oN;by_cases h0:m.role=0
    ·rw[xy h0,eF h0,lF];by_cases hn:m.name=name
     ·rw[hn,eF rfl];simp
     ·rw[fC hn];have:m.name.map B≠name.map B:=λz=>hn (vq km.nm h8 z);simpa using this
    ·rw[fC h0,kW];by_cases h1:m.role=1
     ·rw[zj h1];rfl
     ·have:=km.role;rw[EV km Ä];rfl
   rw[XD,XD,e,ih λx hx=>kv x (aN _ hx)]
 exact this ms f.kv
theorem ak2(name:LI)(l:List (LI×Nat)):∀(acc:Option Nat),(∀p∈l,p.1≠name)→l.foldl (λacc p=>if p.1=name then some p.2 else acc) acc=acc:=by
 induction l with
 |nil=>exact @λacc _=>rfl
 |cons p l ih=>
  intro acc h;rw[GW,ah (h p Â)];exact ih acc λq hq=>h q (aN _ hq)
theorem ak3(name:LI)(k:Nat)(l:List (LI×Nat)):∀(acc:Option Nat),(∀p∈l,p.1=name→p.2=k)→((∃p∈l,p.1=name)∨acc=some k)→l.foldl (λacc p=>if p.1=name then some p.2 else acc) acc=some k:=by
 induction l with
 |nil=>exact @λacc _ h=>h.elim (λ⟨p,hp,_⟩=>absurd hp Â) id
 |cons p l ih=>
  intro acc h1 h2;rw[GW];refine ih _ (λq hq=>h1 q (aN _ hq)) ?_;by_cases hp:p.1=name
  ·rw[af hp,h1 p Â hp];exact Or.inr rfl
  ·rw[ah hp];rcases h2 with ⟨q,hq,e⟩|h2
   ·rcases bf.mp hq with rfl|hq
    ·exact absurd e hp
    ·exact Or.inl ⟨q,hq,e⟩
   ·exact Or.inr h2
def WA(f:qT ms)(name:LI):jE ms name=ms.findIdx? (oN name):=by
 have sO:∀i,i<ms.length→ms[i]? =some ϔ:=λi hi=>by
  rw[iQ,dm hi];rfl
 have jf:∀p,p∈sE ms ms.length↔ ∃j,j<ms.length∧(ms.getD j fg).role=0∧p=((ms.getD j fg).name,j):=λp=>by
  unfold sE jD;simp only[cb,j3,z7,nI];exact⟨λ⟨j,⟨h1,h2⟩,e⟩=>⟨j,h1,h2,e.symm⟩,λ⟨j,h1,h2,e⟩=>⟨j,⟨h1,h2⟩,e.symm⟩⟩
 have hu:∀i j,i<j→j<ms.length→oN name ϔ=true→oN name (ms.getD j fg)=true→False:=λi j E9 hj h1 h2=>by
  have hp:=aoW.mp f.nm;have:=(pw_place.mp hp) j _ (sO j hj) ϔ (by
   refine bY (i:=i) ?_;rw[Xo E9,sO i Ä])
  unfold oN at h1 h2;obtain⟨a1,a2⟩:=uQ.mp h1;obtain⟨b1,b2⟩:=uQ.mp h2;exact this a1 b1 ((qZ a2).trans (qZ b2).symm)
 unfold jE;cases e:ms.findIdx? (oN name) with
 |none=>
  rw[List.findIdx?_eq_none_iff] at e;refine ak2 name _ none λp hp z=>?_;obtain⟨j,hj,h0,rfl⟩:=(jf p).mp hp;have:=e _ (bY (sO j hj));unfold oN at this;rw[eF h0,eF z] at this;cases this
 |some k=>
  obtain⟨hk,h1,_⟩:=OI.mp e;have kj:oN name (ms.getD k fg)=true:=by
   rw[iQ,dm hk];exact h1
  have vH:=uQ.mp kj;refine ak3 name k _ none (λp hp z=>?_) (Or.inl ⟨((ms.getD k fg).name,k),(jf _).mpr ⟨k,hk,qZ vH.1,rfl⟩,qZ vH.2⟩);obtain⟨j,hj,h0,rfl⟩:=(jf p).mp hp;have DZ:oN name (ms.getD j fg)=true:=by
   unfold oN;rw[eF h0,eF z];rfl
  rcases Nat.lt_trichotomy j k with h|h|h
  ·exact(hu j k h hk DZ kj).elim
  ·exact h
  ·exact(hu k j h hj kj DZ).elim
def ak4{L:Flags.Locker}{ms:aF}(hk:L.kinds=ms.map bU)(f:qT ms){name:LI}(h8:a0 name):L.find Ãf=jE ms name:=(ak1 hk f h8).trans (WA f name).symm
def ak5{ms:aF}(f:qT ms)(hn:∀m∈ms,m.role=0→iD m.name=true){name:LI}{k:Nat}(h:jE ms name=some k):iD name=true:=by
 rw[WA f] at h;obtain⟨hk,h1,_⟩:=OI.mp h;have h1:=uQ.mp h1;have:=hn _ (List.getElem_mem hk) (qZ h1.1);rw[qZ h1.2] at this;exact this
theorem ak6{l:LI}:a0 l→Flags.partAt 32 ĵ=if l.contains 32=true then some ((l.take (l.idxOf 32)).map B,(l.drop (l.idxOf 32+1)).map B) else none:=by
 induction l with
 |nil=>exact @λ_=>rfl
 |cons x r ih=>
  intro h;have ih:=ih λw hw=>h w (aN _ hw);have hx:=Cc (h x Â);rw[aY];unfold Flags.partAt;rw[List.idxOf_cons,z4];by_cases e:x=32
  ·rw[af (by rw[eF e] at hx;simpa using hx),af (by rw[e];rfl)];subst e;rfl
  ·have hB:¬B x=32:=by rw[fC e] at hx;simpa using hx
   have e1:(x==32)=false:=by simpa using e
   have e2:((32:Int)==x)=false:=by simpa using dJ e
   rw[ah hB,ih,e1,e2,Ov];by_cases hc:r.contains 32=true
   ·rw[af hc,af hc];rfl
   ·rw[ah hc,ah hc];rfl
theorem ak7{L:Flags.Locker}{ms:aF}(hk:L.kinds=ms.map bU)(f:qT ms){ps:dc}:(∀p∈ps,a0 p)→L.rowIn (ps.map ç)=if (ps.map (jE ms)).contains none=true then none else some ((ps.map (jE ms)).map λo=>o.getD 0):=by
 induction ps with
 |nil=>exact @λ_=>rfl
 |cons p ps ih=>
  intro h;have ih:=ih λq hq=>h q (aN _ hq);unfold Flags.Locker.rowIn at ih⊢;rw[aY,GG,ak4 hk f (h p Â),ih,aY,z4];cases e:jE ms p with
  |none=>rfl
  |some k=>
   have e2:((none:Option Nat)==some k)=false:=rfl;rw[e2,Ov];by_cases hc:(ps.map (jE ms)).contains none=true
   ·rw[af hc,af hc];rfl
   ·rw[ah hc,ah hc];rfl
def entry_eq{L:Flags.Locker}{ms:aF}(hk:L.kinds=ms.map bU)(f:qT ms)(hn:∀m∈ms,m.role=0→iD m.name=true){w:LI}(h8:a0 w):
  ((Flags.entryIn Ħ).bind λx=>(L.rowIn x.1).map λr=>(r,x.2))=(iy ms w).map λe=>(e.1,e.2.map B):=by
 unfold Flags.entryIn iy;rw[ak6 h8];by_cases hc:w.contains 32=true
 ·rw[af hc,af hc];have Nb:a0 (w.take (w.idxOf 32)):=λx hx=>h8 x (GH hx);have WB:a0 (w.drop (w.idxOf 32+1)):=λx hx=>h8 x (Xz hx);generalize w.take (w.idxOf 32)=p1 at Nb;generalize w.drop (w.idxOf 32+1)=p2 at WB;rw[C4];dsimp only;unfold Flags.namesIn;rw[show Flags.cutAt 46 (p1.map B)=(aI 46 p1).map ç from xj 46 Ø p1 Nb,akX WB];have jT:=pz 46 (l:=p1) Nb;have er:=ak7 hk f jT;unfold vT oE;rw[aA];generalize aI 46 p1=ps at jT er;dsimp only;rw[aA];by_cases cJ:ps.length≤8
  ·by_cases hcn:(ps.map (jE ms)).contains none=true
   ·rw[af (Or.inr hcn)];rw[af hcn] at er;dsimp only;split
    ·rw[C4];split
     ·rw[C4,er];rfl
     ·rfl
    ·rfl
   ·have jh:(ps.map ç).all Flags.isName=true:=by
     rw[qX,kZ];intro p hp;show Flags.isName ϓ=true;rw[ER (jT p hp)];cases e:jE ms p with
     |none=>exact absurd (by rw[C0];exact cb.mpr ⟨p,hp,e⟩) hcn
     |some k=>exact ak5 f hn e
    rw[af (show ps.length≤Flags.LONG∧(ps.map ç).all Flags.isName=true from⟨cJ,jh⟩),ah (λz:ps.length>8∨(ps.map (jE ms)).contains none=true=>z.elim (λy=>by omega) hcn),C4];rw[ah hcn] at er;dsimp only;by_cases hm:sD p2=true
    ·rw[af hm,af hm,C4,er];rfl
    ·rw[ah hm,ah hm];rfl
  ·rw[ah (λz:ps.length≤Flags.LONG∧(ps.map ç).all Flags.isName=true=>cJ z.1),af (show ps.length>8∨(ps.map (jE ms)).contains none=true from Or.inl Ä)];rfl
 ·rw[ah hc,ah hc];rfl
theorem WC:∀r s:LN,r.length=s.length→HT.lexLt (nv r) (nv s)=Flags.before r s
 |[],[],_=>rfl
 |[],_::_,h=>by simp at h
 |_::_,[],h=>by simp at h
 |x::r,y::s,h=>by
  have ih:=WC r s (by simpa using h);show HT.lexLt (((x:Nat):Int)::nv r) (((y:Nat):Int)::nv s)=(decide (x<y)||(x==y&&Flags.before r s));rw[HT.tU,ih];by_cases e:x=y
  ·subst e;rw[af rfl,fC Ä];simp
  ·rw[ah Ä,show(x==y)=false by simpa using e,kW,Bool.or_false,XO];omega
def ak8(r s:LN):uE r s=Flags.rowBefore r s:=by
 unfold uE Flags.rowBefore;by_cases e:r.length=s.length
 ·rw[af Ä,WC r s e,fC Ä,show(r.length==s.length)=true by simp_all];simp
 ·grind
def ak9{L:Flags.Locker}{ms:aF}(hk:L.kinds=ms.map bU)(g:vY ms){row:LN}(sg:∀s∈row,jD ms s=true):jW ms row=L.canShow row:=by
 unfold jW;rw[M5 hk g (rows:=[row]) (λr hr=>by
  obtain rfl:r=row:=by simpa using hr
  exact sg),show L.canShowAll [row]=L.canShow row from rfl]
 cases L.canShow row <;> rfl
abbrev ml:=LN×LI
def nG(e:ml):Flags.Entry:=⟨e.1,e.2.map B⟩
def pX(past:List ml)(e:ml):Bool:=!(past.getLast?.any λp=>!uE p.1 e.1)
def sP(ms:aF):List ml→dc→Option (List ml)
 |past,[]=>some past
 |past,w::r=>match iy ms w with
  |none=>none
  |some e=>if (jW ms e.1&&(pX past e&&decide (past.length<2048)))=true then sP ms (past++[e]) r else none
def ala{L:Flags.Locker}{ms:aF}(hk:L.kinds=ms.map bU)(f:qT ms)(hn:∀m∈ms,m.role=0→iD m.name=true)(z:LI)(r:dc):∀(i:Nat)(past:List ml),(∀w∈r,a0 w)→
  (∀es,(z=[]∧sP ms past r=some es)→L.judgeEntries i Àw ((r++[z]).map ç)=.ok (es.map nG))∧((¬z=[]∨sP ms past r=none)→∃e,L.judgeEntries i Àw ((r++[z]).map ç)=.error e):=by
 induction r with
 |nil=>
  intro i past _;have ej:L.judgeEntries i Àw ((([]:dc)++[z]).map ç)=if z.map B=[] then .ok Àw else .error (1,i):=rfl;rw[ej];refine⟨λes h=>?_,λh=>?_⟩
  ·rw[af (by rw[h.1];rfl),show past=es from aO h.2]
  ·rcases h with h|h
   ·exact⟨_,ah (λq=>h (by simpa using q))⟩
   ·cases h
 |cons w r ih=>
  intro i past h8;have h8w:=h8 w Â;have g:=M8 f;obtain⟨y,r',er⟩:∃y r',(r++[z]).map ç=y::r':=by
   cases r with
   |nil=>exact⟨_,_,rfl⟩
   |cons a b=>exact⟨_,_,rfl⟩
  have ej:L.judgeEntries i Àw (((w::r)++[z]).map ç)=match Flags.entryIn Ħ with
    |none=>.error (1,i)
    |some (n,m)=>match L.entryRow Àw n with
     |.error k=>.error (k,i)
     |.ok row=>L.judgeEntries (i+1) (past.map nG++[⟨row,m⟩]) ((r++[z]).map ç):=by
   rw[show((w::r)++[z]).map ç=w.map B::y::r' from cz (w.map B:: ·) er,er];rfl
  have ee:=entry_eq hk f hn h8w;have eg:sP ms past (w::r)=match iy ms w with
   |none=>none
   |some e=>if (jW ms e.1&&(pX past e&&decide (past.length<2048)))=true then sP ms (past++[e]) r else none:=rfl
  rw[ej,eg];cases e1:Flags.entryIn Ħ with
  |none=>
   rw[e1] at ee;have e2:iy ms w=none:=by
    cases e:iy ms w with
    |none=>rfl
    |some x=>rw[e] at ee;cases ee
   rw[e2];exact⟨λes h=>(by cases h.2),λ_=>⟨_,rfl⟩⟩
  |some x=>
   obtain⟨n,m⟩:=x;rw[e1,C4] at ee;dsimp only at ee⊢;unfold Flags.Locker.entryRow;cases e3:L.rowIn n with
   |none=>
    rw[e3] at ee;have e2:iy ms w=none:=by
     cases e:iy ms w with
     |none=>rfl
     |some x=>rw[e] at ee;cases ee
    rw[e2];exact⟨λes h=>(by cases h.2),λ_=>⟨_,rfl⟩⟩
   |some row=>
    rw[e3] at ee;cases e2:iy ms w with
    |none=>rw[e2] at ee;cases ee
    |some e=>
     rw[e2] at ee;have ee:=aO ee;have vR:=cz Prod.fst ee;have Fo:=cz Prod.snd ee;subst vR Fo;have jR:=(Mw e2).2;have ec:=ak9 hk g (row:=e.1) λs hs=>(jR s hs).2;have el:((past.map nG).getLast?.any λ(p:Flags.Entry)=>!Flags.rowBefore p.row e.1)=!pX past e:=by
      unfold pX;rw[OQ,List.getLast?_map];cases past.getLast? with
      |none=>rfl
      |some p=>
       show(!Flags.rowBefore p.1 e.1)=!uE p.1 e.1;rw[ak8]
     have em:(past.map nG).length=past.length:=aA ..;dsimp only;rw[←ec,el,em];obtain⟨j1,j2⟩:=ih (i+1) (past++[e]) λv hv=>h8 v (aN _ hv);rw[bV,show[e].map nG=[⟨e.1,e.2.map B⟩] from rfl] at j1 j2;cases hcan:jW ms e.1 with
     |false=>
      rw[af (rfl:false=false),kW,ah dZ];exact⟨λes h=>(by cases h.2),λ_=>⟨_,rfl⟩⟩
     |true=>
      rw[ah (by decide:¬(true=false)),lF];cases hnx:pX past e with
      |false=>
       rw[af (by decide:(!false)=true),kW,ah dZ];exact⟨λes h=>(by cases h.2),λ_=>⟨_,rfl⟩⟩
      |true=>
       rw[ah (by decide:¬(!true)=true),lF];by_cases hp:past.length<2048
       ·rw[ah (show ¬Flags.ENTRIES≤past.length from λq=>by have:(2048:Nat)≤past.length:=q;omega),eF hp,af rfl];exact⟨j1,j2⟩
       ·rw[af (show Flags.ENTRIES≤past.length from by show(2048:Nat)≤past.length;omega),fC hp,ah dZ];exact⟨λes h=>(by cases h.2),λ_=>⟨_,rfl⟩⟩
def sQ:List ml→List ml→Bool
 |_,[]=>true
 |past,e::es=>pX past e&&sQ (past++[e]) es
def alc(ms:aF)(r:dc):∀(past:List ml),sP ms past r=match iZ ms r with
  |none=>none
  |some es=>if (es.all (λe=>jW ms e.1)&&(sQ past es&&decide (past.length+es.length≤2048∨es=[])))=true then some (past++es) else none:=by
 induction r with
 |nil=>
  intro past;show some past=if _ then some (past++[]) else none;rw[kY,af];simp[sQ]
 |cons w r ih=>
  intro past;unfold sP iZ;cases e1:iy ms w with
  |none=>
   cases iZ ms r <;> rfl
  |some e=>
   dsimp only;rw[ih (past++[e])];cases e2:iZ ms r with
   |none=>
    split <;> rfl
   |some es=>
    dsimp only;rw[qW,show sQ past (e::es)=(pX past e&&sQ (past++[e]) es) from rfl,rg,show[e]++es=e::es from rfl,mw,show[e].length=1 from rfl,cZ (a:=e) (as:=es)];have hd:(decide (past.length+(es.length+1)≤2048∨e::es=[]))=(decide (past.length<2048)&&decide (past.length+1+es.length≤2048∨es=[])):=by
     rw[oP,jq,nI,nI,nI];constructor
     ·rintro (h|h)
      ·exact⟨by omega,Or.inl Ä⟩
      ·cases h
     ·rintro⟨h1,h2⟩;rcases h2 with h2|h2
      ·exact Or.inl Ä
      ·subst h2;exact Or.inl (by simp only[qU];omega)
    rw[hd];generalize jW ms e.1=a1;generalize es.all (λe=>jW ms e.1)=a2;generalize pX past e=a3;generalize sQ (past++[e]) es=a4;generalize decide (past.length<2048)=a5;generalize decide (past.length+1+es.length≤2048∨es=[])=a6;cases a1 <;> cases a2 <;> cases a3 <;> cases a4 <;> cases a5 <;> cases a6 <;> rfl
theorem ald(es:List ml):∀(past:List ml)(p:ml),sQ (past++[p]) es=((p::es).zip es).all λq=>uE q.1.1 q.2.1:=by
 induction es with
 |nil=>exact @λpast p=>rfl
 |cons e es ih=>
  intro past p;have ih:=ih (past++[p]) e;show(pX (past++[p]) e&&sQ (past++[p]++[e]) es)=_;rw[ih,CI,qW];congr 1;unfold pX;rw[List.getLast?_concat];show(!(!uE p.1 e.1))=_;rw[OQ]
theorem ale(es:List ml):sQ [] es=zI (es.map (·.1)):=by
 cases es with
 |nil=>rfl
 |cons e es=>
  show(pX [] e&&sQ ([]++[e]) es)=_;rw[ald];unfold zI;rw[show pX [] e=true from rfl,lF,aY,List.drop_succ_cons,List.drop_zero,←aY,List.zip_map,qX];rfl
theorem alf{ms:aF}{r:dc}:∀{es:List ml},iZ ms r=some es→es.length=r.length:=by
 induction r with
 |nil=>
  intro es h;rw[←aO h];rfl
 |cons w r ih=>
  intro es h;unfold iZ at h;cases e1:iy ms w with
  |none=>rw[e1] at h;cases iZ ms r <;> cases h
  |some e=>
   cases e2:iZ ms r with
   |none=>rw[e1,e2] at h;cases h
   |some nR=>
    rw[e1,e2] at h;rw[←aO h,cZ,cZ,ih e2]
theorem alg{ms:aF}(nm:LI)(r:dc):(if r.length≤2048 then Fz ms nm (iZ ms r) else none)=(sP ms [] r).map λes=>(nm,es):=by
 rw[alc];cases e:iZ ms r with
 |none=>
  show(if r.length≤2048 then none else none)=none;simp
 |some es=>
  have hl:=alf e;dsimp only;rw[ale,show([]:List ml).length+es.length=es.length by simp,hl];show(if r.length≤2048 then (if (zI (es.map (·.1))&&(es.map (·.1)).all (jW ms))=true then some (nm,es) else none) else none)=Option.map _ (if _ then some ([]++es) else none);grind
def alh{L:Flags.Locker}{nm:LI}{ms:aF}(hk:L.kinds=ms.map bU)(FA:L.name=nm.map B)(h8n:a0 nm)(f:qT ms)(hn:∀m∈ms,m.role=0→iD m.name=true){b:LI}(h:a0 b):
  (∀y,jX nm ms b=some y→L.judgeBook ş=.ok ⟨y.1.map B,y.2.map nG⟩)∧(jX nm ms b=none→∃e,L.judgeBook ş=.error e):=by
 have oj:Flags.cutAt 10 ş=(aI 10 b).map ç:=xj 10 Ø b h;have h8:=pz 10 (l:=b) h;obtain⟨ls,z,ew⟩:∃ls z,aI 10 b=ls++[z]:=by
  rcases pE (aI 10 b) with e|⟨r,x,e⟩
  ·exact absurd e (lp 10 b)
  ·exact⟨r,x,e⟩
 have hw:jz b=if z=[] then some ls else none:=by
  unfold jz;rw[ew,show(ls++[z]).getLastD []=z by simp,ao8]
 rw[ew] at oj h8;unfold jX;rw[hw]
 match ls,oj,h8 with
 |[],oj,h8=>
  have hb:book1 nm ms (if z=[] then some [] else none)=none:=by split <;> rfl
  rw[hb];refine⟨λy hy=>(by cases hy),λ_=>⟨(1,0),?_⟩⟩;unfold Flags.Locker.judgeBook;rw[oj];rfl
 |[l],oj,h8=>
  have hb:book1 nm ms (if z=[] then some [l] else none)=none:=by split <;> rfl
  rw[hb];refine⟨λy hy=>(by cases hy),λ_=>?_⟩;unfold Flags.Locker.judgeBook;rw[oj];show ∃e,(match Flags.wordName (Flags.ascii "book") ĵ with
   |none=>(Except.error (1,0):Except Flags.Fault Flags.Book)
   |some n=>Except.error (1,1))=Except.error e
  cases Flags.wordName (Flags.ascii "book") ĵ with
  |none=>exact⟨_,rfl⟩
  |some n=>exact⟨_,rfl⟩
 |l::fo::r,oj,h8=>
  have h8l:=h8 l Â;have WD:=h8 fo Â;have h8r:∀w∈r,a0 w:=λw hw=>h8 w (by simp[hw]);have ej:L.judgeBook ş=match (fc (codes "book") l).map (λn=>n.map B) with
    |none=>.error (1,0)
    |some n=>match (fc (codes "for") fo).map (λn=>n.map B) with
     |none=>.error (1,1)
     |some o=>if o≠L.name then .error (2,1) else (L.judgeEntries 2 [] ((r++[z]).map ç)).map λ(l:List Flags.Entry)=>(⟨n,l⟩:Flags.Book):=by
   rw[←Ww "book" "book" Åy È h8l,←Ww "for" "for" Åy È WD];unfold Flags.Locker.judgeBook;rw[oj];have aQ:((r++[z]).map ç).isEmpty=false:=by
    cases r <;> rfl
   show(match Flags.wordName (Flags.ascii "book") ĵ with
    |none=>(Except.error (1,0):Except Flags.Fault Flags.Book)
    |some n=>if ((r++[z]).map (λ(w:LI)=>w.map B)).isEmpty=true then Except.error (1,1) else match Flags.wordName (Flags.ascii "for") (fo.map B) with
     |none=>Except.error (1,1)
     |some o=>if o≠L.name then Except.error (2,1) else (L.judgeEntries 2 [] ((r++[z]).map (λ(w:LI)=>w.map B))).map λ(l:List Flags.Entry)=>(⟨n,l⟩:Flags.Book))=_
   rw[aQ];cases Flags.wordName (Flags.ascii "book") ĵ with
   |none=>rfl
   |some n=>
    dsimp only;rw[ah dZ]
  have eb:book1 nm ms (if z=[] then some (l::fo::r) else none)=if z=[] then (match fc (codes "book") l with
    |none=>none
    |some n=>if fc (codes "for") fo=some nm then (sP ms [] r).map λes=>(n,es) else none) else none:=by
   by_cases hz:z=[]
   ·rw[af hz,af hz];show(if r.length≤2048 then Mv nm ms (fc (codes "book") l) (fc (codes "for") fo) r else none)=_;cases fc (codes "book") l with
    |none=>
     show(if r.length≤2048 then none else none)=none;split <;> rfl
    |some n=>
     dsimp only;rw[←alg];show(if r.length≤2048 then (if fc (codes "for") fo=some nm then Fz ms n (iZ ms r) else none) else none)=_;split <;> split <;> rfl
   ·rw[ah hz,ah hz];rfl
  rw[ej,eb];obtain⟨j1,j2⟩:=ala hk f hn z r 2 [] h8r;rw[lE] at j1 j2;cases e1:fc (codes "book") l with
  |none=>
   refine⟨λy hy=>?_,λ_=>⟨_,rfl⟩⟩;split at hy <;> cases hy
  |some n=>
   cases e2:fc (codes "for") fo with
   |none=>
    refine⟨λy hy=>?_,λ_=>⟨_,rfl⟩⟩;split at hy
    ·dsimp only at hy;rw[ah (by intro q;cases q)] at hy;cases hy
    ·cases hy
   |some o=>
    have h8o:a0 o:=by
     unfold fc at e2;split at e2
     ·rename_i a c ec;split at e2
      ·rw[←aO e2];exact pz 32 WD c (by rw[ec];simp)
      ·cases e2
     ·cases e2
    dsimp only[Option.map_some];by_cases ho:o=nm
    ·subst ho;rw[ah (λq:o.map B≠L.name=>q FA.symm),af rfl];by_cases hz:z=[]
     ·rw[af hz];cases eg:sP ms [] r with
      |none=>
       obtain⟨e,ee⟩:=j2 (Or.inr eg);exact⟨λy hy=>(by cases hy),λ_=>⟨e,by rw[ee];rfl⟩⟩
      |some es=>
       have ee:=j1 es ⟨hz,eg⟩;refine⟨λy hy=>?_,λhy=>(by cases hy)⟩;have hy:(n,es)=y:=aO hy;rw[←hy,ee];rfl
     ·rw[ah hz];obtain⟨e,ee⟩:=j2 (Or.inl hz);exact⟨λy hy=>(by cases hy),λ_=>⟨e,by rw[ee];rfl⟩⟩
    ·have aQ:o.map B≠L.name:=λq=>ho (vq h8o h8n (q.trans FA));rw[af aQ,ah (λq:some o=some nm=>ho (aO q))];refine⟨λy hy=>?_,λ_=>⟨_,rfl⟩⟩;split at hy <;> cases hy
def sR(l:LI):Prop:=∀x∈l,0≤x∧x≤16
def Nc:Told→Prop
 |.side s l=>s<3∧iI l
 |.hoist k=>k<4
 |.shape k=>k<4
 |.row l=>l.length=4∧sR l
structure xY(m:gi):Prop where
 cl:m.classes=[]∨iI m.classes
 sd:m.side<3
 c8:m.ak.length≤4
 fl:∀g∈m.ak,g.flags.length≤8
 ce:∀g∈m.ak,∀f∈g.flags,f.1<4∧sR f.2
def WE(h:jx signs part=some l):l.length=part.length∧∀x∈l,0≤x∧x<signs.length:=by
 unfold jx at h;grind
theorem aln(h:jN w=some t):Nc t:=by
 unfold jN at h;cases e1:dy w with
 |some x=>
  rw[e1] at h;have h:=(aO h).symm;subst h;unfold HD.dy at e1;split at e1
  ·rename_i a b c ec;split at e1
   ·cases e2:bw uf b with
    |none=>simp_all
    |some s=>
     cases e3:ib c with
     |none=>simp_all
     |some l=>
      rw[e2,e3] at e1;have e1:=(aO e1).symm;subst e1;refine⟨zd e2,?_⟩;unfold ib at e3;split at e3
      ·rename_i hc;obtain⟨p1,p2⟩:=WE e3;have hl:kC.length=16:=by decide+kernel
       rw[hl] at p2;exact⟨p1.trans hc,p2⟩
      ·simp_all
   ·simp_all
  ·simp_all
 |none=>
  rw[e1] at h;cases e2:bw ik w with
  |some k=>
   rw[e2] at h;have h:=(aO h).symm;subst h;exact zd e2
  |none=>
   rw[e2] at h;cases e3:bw il w with
   |some k=>
    rw[e3] at h;have h:=(aO h).symm;subst h;exact zd e3
   |none=>
    rw[e3] at h;cases e4:jM w with
    |none=>simp_all
    |some l=>
     rw[e4] at h;have h:=(aO h).symm;subst h;refine⟨Ss e4,λx hx=>?_⟩;unfold jM at e4;split at e4
     ·have:=(WE e4).2 x hx;have hl:pj.length=17:=by decide+kernel
      omega
     ·simp_all
theorem alo(h:Nc t):Tg t:=by
 cases t with
 |side s l=>exact h.2.1
 |hoist k=>trivial
 |shape k=>trivial
 |row l=>exact h.1
def alp{m:gi}(v:xY m){t:Told}(g:Nc t)(h:dj m t.sort=true):xY (qD m t):=by
 have upd:∀(gs:List iC)(F:iC→iC),m.ak=gs→(∀x∈m.ak.getLast?,(F x).flags.length≤8∧∀f∈(F x).flags,f.1<4∧sR f.2)→xY ⟨m.side,m.classes,m.ak.dropLast++(m.ak.getLast?.map F).toList⟩:=λgs F _ hF=>by
  have jf:∀y∈m.ak.dropLast++(m.ak.getLast?.map F).toList,y∈m.ak∨∃x,m.ak.getLast?=some x∧y=F x:=λy hy=>by
   rcases gK.mp hy with hy|hy
   ·exact Or.inl (Ad _ hy)
   ·cases e:m.ak.getLast? with
    |none=>rw[e] at hy;cases hy
    |some x=>
     rw[e] at hy;exact Or.inr ⟨x,rfl,by simpa using hy⟩
  refine⟨v.cl,v.sd,?_,λy hy=>?_,λy hy=>?_⟩
  ·show(m.ak.dropLast++(m.ak.getLast?.map F).toList).length≤4;have:=v.c8;rcases pE m.ak with e|⟨r,x,e⟩
   ·rw[e];simp
   ·rw[e] at this⊢;simp at this⊢;exact this
  ·rcases jf y hy with h|⟨x,hx,rfl⟩
   ·exact v.fl y h
   ·exact(hF x hx).1
  ·rcases jf y hy with h|⟨x,hx,rfl⟩
   ·exact v.ce y h
   ·exact(hF x hx).2
 cases t with
 |side s l=>exact⟨Or.inr g.2,g.1,v.c8,v.fl,v.ce⟩
 |hoist k=>
  have h4:=Si h;refine⟨v.cl,v.sd,?_,λy hy=>?_,λy hy=>?_⟩
  ·show(m.ak++[_]).length≤4;rw[mw];exact h4
  ·rcases gK.mp hy with hy|hy
   ·exact v.fl y hy
   ·obtain rfl:y=_:=by simpa using hy
    exact dQ _
  ·rcases gK.mp hy with hy|hy
   ·exact v.ce y hy
   ·obtain rfl:y=_:=by simpa using hy
    intro f hf;cases hf
 |shape k=>
  refine upd _ _ rfl λx hx=>?_;have hx:m.ak.getLast?=some x:=hx;have gq:=CW hx;have h8:x.flags.length<8:=by
   have h:dj m 2=true:=h;unfold dj at h;split at h
   ·simp at h
   ·split at h
    ·simp at h
    ·split at h
     ·rename_i hq;exact absurd hq Ø
     ·rw[hx] at h;simpa using h
  refine⟨?_,λf hf=>?_⟩
  ·show(x.flags++[(k,[])]).length≤8;rw[mw];exact h8
  ·rcases gK.mp hf with hf|hf
   ·exact v.ce x gq f hf
   ·obtain rfl:f=_:=by simpa using hf
    exact⟨g,λy hy=>absurd hy Â⟩
 |row l=>
  refine upd _ _ rfl λx hx=>?_;have hx:m.ak.getLast?=some x:=hx;have gq:=CW hx;have fV:=v.fl x gq;have ko:=v.ce x gq;refine⟨?_,λf hf=>?_⟩
  ·show(x.flags.dropLast++(x.flags.getLast?.map λs=>(s.1,s.2++l)).toList).length≤8;rcases pE x.flags with e|⟨r,y,e⟩
   ·rw[e];simp
   ·rw[e] at fV⊢;simp at fV⊢;exact fV
  ·rcases gK.mp hf with hf|hf
   ·exact ko f (Ad _ hf)
   ·cases e:x.flags.getLast? with
    |none=>rw[e] at hf;cases hf
    |some y=>
     rw[e] at hf;obtain rfl:f=_:=by simpa using hf
     have hy:=ko y (CW e);exact⟨hy.1,λz hz=>(gK.mp hz).elim (hy.2 z) (g.2 z)⟩
def alq{m:gi}{s:Flags.PlateState}(r:zm m s):(pH m=true→s.over=some (om m)∧m.classes≠[]∧∀g∈m.ak,∀f∈g.flags,f.2.length=16)∧(pH m=false→s.over=none):=by
 obtain⟨hh,ho,hd⟩:=r;unfold pH Flags.PlateState.over;cases ho with
 |ur h1 h2 h3=>
  rw[EW h3,Bool.not_false,OL,h1,h2,Li];unfold kG;cases e:m.ak.getLast? with
  |none=>
   have:m.ak=[]:=by
    rcases pE m.ak with e'|⟨r,x,e'⟩
    ·exact e'
    ·rw[e',agK] at e;cases e
   rw[this];refine⟨λz=>(by cases z),λ_=>?_⟩;cases s.head <;> rfl
  |some g=>
   have aQ:m.ak≠[]:=λz=>by rw[z] at e;cases e
   have hc:m.classes≠[]:=λz=>aQ (hd z);have e1:m.ak.isEmpty=false:=by simpa using aQ
   rw[e1,hh,ah hc,Bool.not_false,lF];dsimp only[Option.map_some];have e2:(iX g).flags.isEmpty=g.flags.isEmpty:=by
    unfold iX;dsimp only;cases g.flags <;> rfl
   rw[e2];refine⟨λz=>⟨?_,hc,h3⟩,λz=>?_⟩
   ·have z:g.flags.isEmpty=false:=by simpa using z
    rw[z,ah dZ];rfl
   ·have z:g.flags.isEmpty=true:=by simpa using z
    rw[z,af rfl]
 |opened gs a b fs k cs h1 h2 h3 h4 h5 h6 h7=>
  rw[EX h1 h4,Bool.not_true,yc,yc,h2];refine⟨λz=>(by cases z),λ_=>?_⟩;cases s.head <;> rfl
def go_eq(z:LI)(ls:dc):∀(i:Nat)(m:gi)(s:Flags.PlateState),(∀w∈ls,a0 w)→zm m s→xY m→
  (∀m',lY i m ls=.ok m'→∃s',zm m' s'∧xY m'∧Flags.plateLines i s ((ls++[z]).map ç)=Flags.plateLines (i+ls.length) s' [z.map B])∧(∀e,lY i m ls=.error e→∃e',Flags.plateLines i s ((ls++[z]).map ç)=.error e'):=by
 induction ls with
 |nil=>
  intro i m s _ r v;exact⟨λm' h=>by
   have h:m=m':=by injection h
   subst h;exact⟨s,r,v,rfl⟩,λe h=>(by cases h)⟩
 |cons w ls ih=>
  intro i m s h8 r v;obtain⟨y,r',er⟩:∃y r',(ls++[z]).map ç=y::r':=by
   cases ls with
   |nil=>exact⟨_,_,rfl⟩
   |cons a b=>exact⟨_,_,rfl⟩
  have ej:Flags.plateLines i s (((w::ls)++[z]).map ç)=match Flags.plateLine Ħ with
    |none=>.error (1,i)
    |some x=>match s.line x with
     |none=>.error (2,i)
     |some t=>Flags.plateLines (i+1) t ((ls++[z]).map ç):=by
   rw[show((w::ls)++[z]).map ç=w.map B::y::r' from cz (w.map B:: ·) er,er];rfl
  rw[ej,agJ (h8 w Â)];unfold lY;cases e1:jN w with
  |none=>exact⟨λm' h=>(by cases h),λe _=>⟨_,rfl⟩⟩
  |some t=>
   have g:=aln e1;obtain⟨s1,s2⟩:=agL r (alo g);dsimp only[Option.map_some];cases hm:dj m t.sort with
   |false=>
    rw[ah dZ,s2 hm];exact⟨λm' h=>(by cases h),λe _=>⟨_,rfl⟩⟩
   |true=>
    obtain⟨s',e2,r2⟩:=s1 hm;rw[af rfl,e2];obtain⟨j1,j2⟩:=ih (i+1) (qD m t) s' (λx hx=>h8 x (aN _ hx)) r2 (alp v g hm);refine⟨λm' h=>?_,j2⟩;obtain⟨s3,a,b,c⟩:=j1 m' h;refine⟨s3,a,b,?_⟩;rw[cZ,show i+(ls.length+1)=i+1+ls.length by omega];exact c
structure Nf(m:gi):Prop where
 inv:xY m
 cl:iI m.classes
 xF:∀g∈m.ak,∀f∈g.flags,f.2.length=16
def WG{p:LI}(h:a0 p):(∀m,gR p=.ok m→Flags.plateIn ϓ=.ok (om m)∧Nf m)∧(∀e,gR p=.error e→∃e',Flags.plateIn ϓ=.error e'):=by
 have oj:Flags.cutAt 10 ϓ=(aI 10 p).map ç:=xj 10 Ø p h;have h8:=pz 10 (l:=p) h;obtain⟨ls,z,ew⟩:∃ls z,aI 10 p=ls++[z]:=by
  rcases pE (aI 10 p) with e|⟨r,x,e⟩
  ·exact absurd e (lp 10 p)
  ·exact⟨r,x,e⟩
 have p7:p=[]→ls=[]∧z=[]:=λe=>by
  rw[e] at ew;have ew:[[]]=ls++[z]:=ew;cases ls with
  |nil=>
   refine Ŕ;simpa using ew.symm
  |cons a b=>
   have:=cz List.length ew;simp at this
 have nM:ls=[]→z=[]→p=[]:=λe1 e2=>by
  rw[e1,e2] at ew;cases p with
  |nil=>rfl
  |cons x r=>
   have ew:(if x=10 then []::aI 10 r else match aI 10 r with|[]=>[[x]]|w::l=>(x::w)::l)=[[]]:=ew;by_cases hx:x=10
   ·rw[af hx] at ew;injection ew with _ ew;exact absurd ew (lp 10 r)
   ·rw[ah hx] at ew;cases e:aI 10 r with
    |nil=>exact absurd e (lp 10 r)
    |cons w l=>rw[e] at ew;cases ew
 rw[ew] at oj h8;have em:gR p=match lY 0 ⟨0,[],[]⟩ ls with
   |.error e=>.error e
   |.ok m=>if p=[]∨z≠[] then .error (1,ls.length) else if pH m=true then .ok m else .error (2,ls.length):=by
  unfold gR;rw[ew,ao8,show(ls++[z]).getLastD []=z by simp]
  try rfl
 have ei:Flags.plateIn ϓ=Flags.plateLines 0 ⟨none,[],none⟩ ((ls++[z]).map ç):=by
  unfold Flags.plateIn;rw[oj]
 rw[em,ei];have r0:zm ⟨0,[],[]⟩ ⟨none,[],none⟩:=⟨rfl,.ur rfl rfl (λg hg=>absurd hg Â),λ_=>rfl⟩;have v0:xY ⟨0,[],[]⟩:=⟨Or.inl rfl,by decide,by decide,λg hg=>absurd hg Â,λg hg=>absurd hg Â⟩;obtain⟨j1,j2⟩:=go_eq z ls 0 _ _ (λw hw=>h8 w (by simp[hw])) r0 v0;cases eg:lY 0 ⟨0,[],[]⟩ ls with
 |error e=>exact⟨λm hm=>(by cases hm),λ_ _=>j2 e eg⟩
 |ok m=>
  obtain⟨s',r',v',e'⟩:=j1 m eg;rw[e',wk];have el:Flags.plateLines ls.length s' [z.map B]=if z.map B≠[]∨ls.length=0 then .error (1,ls.length) else match s'.over with
    |some z=>.ok z
    |none=>.error (2,ls.length):=rfl
  rw[el];obtain⟨o1,o2⟩:=alq r';by_cases hc:p=[]∨z≠[]
  ·have Ap:z.map B≠[]∨ls.length=0:=by
    rcases hc with hc|hc
    ·exact Or.inr (by rw[(p7 hc).1];rfl)
    ·exact Or.inl (λq=>hc (by simpa using q))
   dsimp only;rw[af hc,af Ap];exact⟨λm hm=>(by cases hm),λ_ _=>⟨_,rfl⟩⟩
  ·have Ap:¬(z.map B≠[]∨ls.length=0):=by
    rintro (q|q)
    ·exact hc (Or.inr λe=>q (by rw[e];rfl))
    ·refine hc ?_;by_cases hz:z=[]
     ·exact Or.inl (nM (OD.mp q) hz)
     ·exact Or.inr hz
   dsimp only;rw[ah hc,ah Ap];cases hw:pH m with
   |true=>
    obtain⟨a,b,c⟩:=o1 hw;rw[af rfl,a];refine⟨λm' hm=>?_,λ_ hm=>(by cases hm)⟩;have hm:m=m':=by injection hm
    subst hm;exact⟨rfl,v',v'.cl.resolve_left b,c⟩
   |false=>
    rw[ah dZ,o2 hw];exact⟨λm hm=>(by cases hm),λ_ _=>⟨_,rfl⟩⟩
def alr(h:a0 p)(e:gR p=.ok m):FO m:=by
 obtain⟨_,f⟩:=(WG h).1 m e;exact⟨f.cl.1,by have:=f.inv.c8;omega,λg hg=>by have:=f.inv.fl g hg;omega,f.xF⟩
def WH(l i:Nat):Flags.cell l i<16:=Nat.mod_lt _ Ø
def als{classes look:LI}(hc:iI classes)(h:iI look){side:Nat}(hs:side=0∨side=1){i:Nat}(hi:i<16):(r6 look classes side).getD i 0=((Flags.cell (Flags.seenFrom Ĕ side (eM look)) i:Nat):Int):=by
 have hm:∀j,j<16→0≤look.getD j 0∧look.getD j 0<16:=λj hj=>h.2 _ (getD_mem (by rw[h.1];exact hj));have cm:∀j,j<16→classes.getD j 0=((Flags.cell Ĕ j:Nat):Int):=λj hj=>by
  have:=hc.2 _ (getD_mem (l:=classes) (i:=j) (by rw[hc.1];exact hj));rw[Bv hc hj];omega
 unfold Flags.seenFrom Flags.inLight r6;rw[ES _ hi,Nat.mod_eq_of_lt (WH _ _)];rcases hs with hs|hs
 ·rw[ah Ä,af hs,iQ,bX,Bv h hi];have e:look[i]? =some (look.getD i 0):=by
   rw[iQ,dm (by rw[h.1];exact hi)];rfl
  rw[e];have:=hm i hi;exact cm _ Ä
 ·rw[af hs,ah Ä,iQ,bX,OK hi];unfold Flags.behind;have hb:=Tq hi;rw[ES _ hi,Nat.mod_eq_of_lt (WH _ _),show 4*(i/4)+(3-i%4)=qI i by unfold qI;omega,Bv h hb];have:=hm _ hb;exact cm _ Ä
theorem alu(P:Nat→Bool):∀n,((List.range n).filter P).foldl (λ(n i:Nat)=>n+2^i) 0<2^n∧∀i,i<n→(((List.range n).filter P).foldl (λ(n i:Nat)=>n+2^i) 0).testBit i=P i:=by
 intro n;induction n with
 |zero=>exact⟨by show 0<1;decide,λi hi=>absurd hi (Nat.not_lt_zero _)⟩
 |succ n ih=>
  obtain⟨h1,h2⟩:=ih;rw[GQ,CY,List.foldl_append];generalize ((List.range n).filter P).foldl (λ(n i:Nat)=>n+2^i) 0=m at h1 h2;have h3:2^(n+1)=2^n+2^n:=by rw[OJ];omega
  cases hp:P n with
  |false=>
   rw[wo,hp,ah dZ];refine⟨by show m<_;omega,λi hi=>?_⟩;rcases ao9 (Nat.lt_succ_iff.mp hi) with q|q
   ·exact h2 i q
   ·rw[q,hp];exact C3 h1
  |true=>
   rw[wo,hp,af rfl];refine⟨by show m+2^n<_;omega,λi hi=>?_⟩;show(m+2^n).testBit i=_;rw[Nat.add_comm];rcases ao9 (Nat.lt_succ_iff.mp hi) with q|q
   ·rw[ao3 q];exact h2 i q
   ·rw[q,hp,ao4,C3 h1];rfl
def alv(qH:s.2.length=16)(hc:sR s.2)(hi:i<16):(ie s).cells.testBit i=!decide (s.2.getD i 0=16)∧(¬s.2.getD i 0=16→((Flags.cell (ie s).look i:Nat):Int)=s.2.getD i 0):=by
 have e0:(s.2.map iJ).getD i none=iJ (s.2.getD i 0):=by
  simp_all
 have hr:=hc _ (getD_mem (l:=s.2) (i:=i) Ä);refine⟨?_,λhn=>?_⟩
 ·show(((List.range 16).filter λ(i:Nat)=>((s.2.map iJ).getD i none).isSome).foldl (λ(n i:Nat)=>n+2^i) 0).testBit i=_;rw[(alu _ 16).2 i hi,e0];unfold iJ;grind
 ·show((Flags.cell (Flags.lookOf λ(i:Nat)=>((s.2.map iJ).getD i none).getD 0) i:Nat):Int)=_;rw[ES _ hi,e0];unfold iJ;grind
def alw(hc:iI classes)(hk:iI k.look)(hd:d=0∨d=1)(qH:s.2.length=16)(hs:sR s.2):
  vM s (oo classes d k)=(((ie s).shape==3||(ie s).shape==(bU k).shape)&&Flags.sameIn (ie s).cells (Flags.seenFrom Ĕ d (bU k).look) (ie s).look):=by
 have e1:((List.range s.2.length).all (vL s.2 (r6 k.look classes d)))=Flags.sameIn (ie s).cells (Flags.seenFrom Ĕ d (eM k.look)) (ie s).look:=by
  rw[qH];unfold Flags.sameIn;rw[oP,kZ,kZ];refine forall_congr' λi=>forall_congr' λhi=>?_;simp at hi;obtain⟨b1,b2⟩:=alv qH hs hi;rw[b1,OQ];unfold vL;rw[als hc hk hd hi];grind
 have e2:vM s (oo classes d k)=if s.1≠3∧s.1≠k.shape then false else (List.range s.2.length).all (vL s.2 (r6 k.look classes d)):=rfl;rw[e2,e1];show _=((s.1==3||s.1==k.shape)&&Flags.sameIn (ie s).cells (Flags.seenFrom Ĕ d (eM k.look)) (ie s).look);grind
structure Cd(L:Flags.Locker)(ms:aF)(classes:LI)(d:Nat):Prop where
 hk:L.kinds=ms.map bU
 lk:∀k∈ms,iI k.look
 cl:iI classes
 d:d=0∨d=1
section
def alx(v:Àj d)(qH:s.2.length=16)(hs:sR s.2)(f:Nat):(r9 ś s).contains f=L.flagFits Ĕ d f (ie s):=by
 unfold Flags.Locker.flagFits;by_cases hf:f<ms.length
 ·rw[Wm v.hk hf];have hm:ms.getD f fg∈ms:=by
   simp_all
  show _=(((ie s).shape==3||(ie s).shape==(bU Èb).shape)&&Flags.sameIn (ie s).cells (Flags.seenFrom Ĕ d (bU Èb).look) (ie s).look);rw[←alw v.cl (v.lk _ hm) v.d qH hs];have e:(ms.map (oo classes d)).getD f (0,[])=oo classes d Èb:=by
   simp_all
  rw[oP,C0];unfold r9;simp_all
 ·have:L.kinds[f]? =none:=by
   rw[v.hk,bX,yd Ä];rfl
  rw[this,←Bool.not_eq_true,C0];unfold r9;grind
theorem WI(v:Àj d):∀(fs:List (Nat×LI))(h:LN),(∀f∈fs,f.2.length=16∧sR f.2)→h.length=fs.length→L.flagsFit Ĕ d h (fs.map ie)=(List.range fs.length).all λi=>((fs.map (r9 ś)).getD i []).contains (h.getD i 0)
 |[],[],_,_=>rfl
 |[],_::_,_,h=>by simp at h
 |_::_,[],_,h=>by simp at h
 |s::fs,f::h,hf,hl=>by
  have ih:=WI v fs h (λx hx=>hf x (aN _ hx)) (by simpa using hl);have hs:=hf s Â;show(L.flagFits Ĕ d f (ie s)&&L.flagsFit Ĕ d h (fs.map ie))=_;rw[ih,←alx v hs.1 hs.2,cZ,CJ,qW,qX];rfl
def WJ(v:Àj d){fs:List (Nat×LI)}(hf:∀f∈fs,f.2.length=16∧sR f.2){h:LN}{a:Nat}(ha:a+fs.length≤h.length):xG a h (fs.map (r9 ś))=L.flagsFit Ĕ d ((h.drop a).take fs.length) (fs.map ie):=by
 rw[WI v fs _ hf (by grind)];unfold xG;grind
def aly(v:Àj d){g:iC}(hf:∀f∈g.flags,f.2.length=16∧sR f.2){h:LN}(hg:g.flags.length≤h.length):uv h g (xE ś g)=L.fits Ĕ d h (iX g):=by
 unfold uv Ly Flags.Locker.fits xE;have el:(iX g).flags.length=g.flags.length:=aA ..;rw[el,oP,uP,uP];show _↔ ∃x,x∈List.range (h.length+1)∧((x==0||g.above)&&((x+g.flags.length==h.length||(g.below&&decide (x+g.flags.length≤h.length)))&&L.flagsFit Ĕ d ((h.drop x).take g.flags.length) (g.flags.map ie)))=true;constructor
 ·rintro⟨i,hi,xZ⟩;simp at hi;generalize ex:nk g.below (h.length-g.flags.length)+i=x at xZ;have hx:x≤sf g.above (h.length-g.flags.length):=by omega
  have rX:nk g.below (h.length-g.flags.length)≤x:=by omega
  have zf:x+g.flags.length≤h.length:=by
   unfold sf at hx;grind
  refine⟨x,z7.mpr Ä,?_⟩;rw[WJ v hf zf] at xZ;rw[xZ,OL,jq];constructor
  ·unfold sf at hx;grind
  ·unfold nk at rX;grind
 ·rintro⟨x,hx,xZ⟩;rw[jq,jq] at xZ;obtain⟨h1,h2,h3⟩:=xZ;have zf:x+g.flags.length≤h.length:=by
   grind
  have hla:x≤sf g.above (h.length-g.flags.length):=by
   unfold sf;grind
  have hfi:nk g.below (h.length-g.flags.length)≤x:=by
   unfold nk;grind
  refine⟨x-nk g.below (h.length-g.flags.length),z7.mpr Ä,?_⟩;rw[show nk g.below (h.length-g.flags.length)+(x-nk g.below (h.length-g.flags.length))=x by omega,WJ v hf zf];exact h3
theorem WK(v:Àj d):∀(hs:bq)(iG:List iC),(∀g∈iG,∀f∈g.flags,f.2.length=16∧sR f.2)→hs.length=iG.length→(∀(i:Nat)h g,hs[i]? =some h→iG[i]? =some g→g.flags.length≤h.length)→l7 hs iG (pO ms classes d iG)=L.allFit Ĕ d hs (iG.map iX)
 |[],[],_,_,_=>rfl
 |[],_::_,_,h,_=>by simp at h
 |_::_,[],_,h,_=>by simp at h
 |h::hs,g::iG,hf,hl,hw=>by
  have ih:=WK v hs iG (λx hx=>hf x (aN _ hx)) (by simpa using hl) (λi a b h1 h2=>hw (i+1) a b h1 h2);show(uv h g (xE ś g)&&l7 hs iG (pO ms classes d iG))=(L.fits Ĕ d h (iX g)&&L.allFit Ĕ d hs (iG.map iX));rw[ih,aly v (hf g Â) (hw 0 h g rfl rfl)]
end
theorem alz:∀(cs rows:bq),cs.foldl oH rows=rows.flatMap λr=>(Flags.rowsFrom cs).map (r++ ·):=by
 intro cs;induction cs with
 |nil=>
  intro rows;show rows=rows.flatMap λr=>[r++[]];induction rows with
  |nil=>rfl
  |cons a l ih=>rw[CZ,←ih,kY];rfl
 |cons c cs ih=>
  intro rows;rw[GW,ih];unfold oH;rw[List.flatMap_assoc];congr 1;funext r;rw[List.flatMap_map];show _=(c.flatMap λ(x:Nat)=>(Flags.rowsFrom cs).map λ(y:LN)=>x::y).map (r++ ·);rw[List.map_flatMap];congr 1;funext x;rw[cO];congr 1;funext y;simp
theorem WL:∀(cs:bq),[]∈cs→Flags.rowsFrom cs=[]
 |c::cs,h=>by
  show(c.flatMap λ(x:Nat)=>(Flags.rowsFrom cs).map λ(y:LN)=>x::y)=[];rcases bf.mp h with h|h
  ·rw[←h];rfl
  ·rw[WL cs h];exact List.flatMap_eq_nil_iff.mpr λ_ _=>rfl
def alA(cs:bq):uH cs=Flags.rowsFrom cs:=by
 unfold uH;split
 ·rename_i h;rw[WL cs (C0.mp h)]
 ·unfold kJ;rw[alz];simp
theorem alB(cs:bq):∀(x:LN),x∈Flags.rowsFrom cs→x.length=cs.length∧∀(i:Nat)n c,x[i]? =some n→cs[i]? =some c→n∈c:=by
 induction cs with
 |nil=>
  intro x h;have h:x∈[[]]:=h;simp at h;subst h;exact⟨rfl,λi n c h=>(by simp at h)⟩
 |cons c cs ih=>
  intro x h;have h:=h;obtain⟨a,ha,h⟩:=j7.mp h;obtain⟨y,hy,rfl⟩:=cb.mp h;obtain⟨h1,h2⟩:=ih y hy;refine⟨by rw[cZ,cZ,h1],λi n c' e1 e2=>?_⟩;cases i with
  |zero=>
   simp at e1;simp at e2;rw[←e1,←e2];exact ha
  |succ i=>exact h2 i n c' (by simpa using e1) (by simpa using e2)
section
variable{L:Flags.Locker}{B:Flags.Book}{ms:aF}{rows:bq}
def alC(hb:B.entries.map Flags.Entry.row=rows)(g:iC):qP rows g=B.may (iX g):=by
 unfold qP Flags.Book.may;have hl:rows.length=B.entries.length:=by rw[←hb,aA]
 rw[hl];apply XR;intro i hi;have hi:i<B.entries.length:=by simpa using hi
 have el:mf rows i=(B.entries[i]).row.length:=by
  unfold mf;rw[←hb,iQ,bX,dm hi];rfl
 have ef:(iX g).flags.length=g.flags.length:=aA ..;rw[dm hi];dsimp only;rw[ef];unfold zN;rw[el];show _=if (g.above||g.below)=true then _ else _;cases h:(g.above||g.below) with
 |true=>
  rw[af rfl,lF,oP,Bool.or_eq_true,OR,OR,OR];omega
 |false=>
  rw[ah dZ,kW,Bool.or_false,oP,OR,ya]
def WM(hb:B.entries.map Flags.Entry.row=rows)(iG:List iC):kO rows iG=(iG.map iX).map B.may:=by
 unfold kO;rw[cO];apply j6;intro g _;exact alC hb g
def alD(hb:B.entries.map Flags.Entry.row=rows)(m:gi):sJ rows m.ak=B.inDoubt (om m):=by
 unfold sJ gV Flags.Book.inDoubt;rw[WM hb,cO];rfl
theorem alE(hb:B.entries.map Flags.Entry.row=rows)(x:LN):(∀n∈x,n<rows.length)→B.rowsOf x=some Ál:=by
 induction x with
 |nil=>exact @λ_=>rfl
 |cons n x ih=>
  intro h;have ih:=ih λz hz=>h z (aN _ hz);have hn:n<B.entries.length:=by
   have:=h n Â;rw[←hb,aA] at this;exact this
  unfold Flags.Book.rowsOf at ih⊢;rw[GG,ih,dm hn];unfold jm;rw[aY,←hb];congr 2;rw[iQ,bX,dm hn];rfl
def WN(h:n∈qP rows g):n<rows.length∧g.flags.length≤(rows.getD n []).length:=by
 unfold qP at h;obtain⟨h1,h2⟩:=j3.mp h;refine⟨by simp_all,?_⟩;unfold zN mf at h2;grind
def alF(hk:L.kinds=ms.map bU)(g:vY ms)(lk:∀k∈ms,iI k.look)(hb:B.entries.map Flags.Entry.row=rows)(sg:zW ms rows)(pf:Nf m):(uI ms rows m).map (·.1)=L.readings B (om m):=by
 unfold uI Flags.Locker.readings;have ec:(om m).hoists.map B.may=kO rows m.ak:=(WM hb m.ak).symm;rw[ec,alA];have g8:∀x∈Flags.rowsFrom (kO rows m.ak),(vV ms rows m.ak (mh ms m) x).map (·.1)=if ((Flags.sides (om m).side).any λ(d:Nat)=>(L.mayFrom B (om m) x d).isSome)=true then some x else none:=λx hx=>by
  obtain⟨nr,gq⟩:=alB _ _ hx;have gE:(kO rows m.ak).length=m.ak.length:=aA ..;have sO:∀(i:Nat)n,x[i]? =some n→∃gl,m.ak[i]? =some gl∧n∈qP rows gl:=λi n e=>by
   have hi:i<m.ak.length:=by
    grind
   refine⟨_,dm hi,gq i n _ e ?_⟩;unfold kO;simp_all
  have bJ:∀n∈x,n<rows.length:=λn hn=>by
   obtain⟨i,hi,e⟩:=qY hn;obtain⟨gl,_,h⟩:=sO i n (by grind);exact(WN h).1
  have hsr:zW ms Ál:=λr hr=>by
   obtain⟨n,hn,rfl⟩:=cb.mp hr;refine sg _ ?_;simp_all
  have hd:=M5 hk g hsr;have ly:=λhs h=>Vk (ms:=ms) (rows:=jm rows x) (hs:=hs) h;unfold vV;rw[hd];unfold Flags.Locker.mayFrom;rw[alE hb x bJ];show _=if ((Flags.sides (om m).side).any λ(d:Nat)=>(if L.canShowAll Ál=true∧L.allFit Èc d (L.displayed Ál) (m.ak.map iX)=true then some (L.displayed Ál) else none).isSome)=true then some x else none;by_cases hcan:L.canShowAll Ál=true
  ·rw[af hcan] at hd;rw[af hcan];have cJ:=ly _ hd;generalize L.displayed Ál=hs at cJ;have xZ:∀d,d=0∨d=1→l7 hs m.ak Ϣ=L.allFit Èc d hs (m.ak.map iX):=λd hd=>by
    refine WK ⟨hk,lk,pf.cl,hd⟩ hs m.ak (λgl ni f hf=>⟨pf.xF gl ni f hf,(pf.inv.ce gl ni f hf).2⟩) ?_ λi h gl h1 h2=>?_
    ·have:=cz List.length cJ;rw[aA,aA] at this;unfold jm at this;simp_all
    ·have e1:(hs.map List.length)[i]? =some h.length:=by rw[bX,h1];rfl
     rw[cJ,bX] at e1;unfold jm at e1;rw[bX] at e1;cases ex:x[i]? with
     |none=>simp_all
     |some n=>
      rw[ex] at e1;have e1:(rows.getD n []).length=h.length:=by simpa using e1
      obtain⟨gl',h3,h4⟩:=sO i n ex;rw[h2] at h3;rw[←aO h3] at h4;have:=(WN h4).2;omega
   have L6:((Flags.sides (om m).side).any λ(d:Nat)=>(if True∧L.allFit Èc d hs (m.ak.map iX)=true then some hs else none).isSome)=(Flags.sides (om m).side).any λd=>l7 hs m.ak Ϣ:=by
    rw[oP,uP,uP];refine exists_congr λd=>and_congr_right λhm=>?_;have hd:d=0∨d=1:=by
     have hs:=pf.inv.sd;have hm:d∈(if m.side=2 then [0,1] else [m.side]):=hm;grind
    grind
   have ht:=eq_true hcan;simp only[ht];rw[L6];have es:sI (mh ms m) m.ak hs=(Flags.sides (om m).side).filter λd=>l7 hs m.ak Ϣ:=by
    unfold sI mh;rw[yf,cO];exact List.map_id _
   rw[es];generalize Flags.sides (om m).side=ss;by_cases hz:(ss.filter λd=>l7 hs m.ak Ϣ)=[]
   ·simp_all
   ·simp_all
  ·simp_all
 generalize Flags.rowsFrom (kO rows m.ak)=X at g8;induction X with
 |nil=>rfl
 |cons x X ih=>
  grind
end
def alH(h8:a0 t)(h:fQ t=some x):∀k∈x.2,iI k.look:=λk hk=>((M6 h8 h).kv k hk).lk
def alI(h8:a0 line)(h:fc w line=some n):a0 n:=by
 unfold fc at h;split at h
 ·rename_i a c ec;split at h
  ·rw[←aO h];exact pz 32 h8 c Ç
  ·simp_all
 ·cases h
def alJ(h8:a0 t)(h:fQ t=some x):a0 x.1:=by
 unfold fQ at h;split at h
 ·rename_i l r e;have hl:a0 l:=by
   unfold jz at e;split at e
   ·have e:=aO e;have:l∈(aI 10 t).dropLast:=by rw[e];exact gu
    exact pz 10 h8 l (Ad _ this)
   ·simp_all
  cases e1:fc (codes "locker") l with
  |none=>rw[e1,Bs] at h;cases h
  |some n=>
   cases e2:gC r with
   |none=>rw[e2,Br] at h;cases h
   |some ms=>
    rw[e1,e2] at h;have h:(if (m9 ms&&oh ms)=true then some (n,ms) else none)=some x:=h;split at h
    ·rw[←aO h];exact alI hl e1
    ·simp_all
 ·cases h
theorem alK{ms:aF}{r:dc}:∀{es:List (LN×LI)},iZ ms r=some es→zW ms (es.map (·.1)):=by
 induction r with
 |nil=>
  intro es h;rw[←aO h];intro r hr;cases hr
 |cons l r ih=>
  intro es h;unfold iZ at h;cases e1:iy ms l with
  |none=>rw[e1] at h;cases h
  |some e=>
   cases e2:iZ ms r with
   |none=>rw[e1,e2] at h;cases h
   |some nR=>
    rw[e1,e2] at h;rw[←aO h];intro row hr;rcases bf.mp hr with rfl|hr
    ·exact λs hs=>((Mw e1).2 s hs).2
    ·exact ih e2 row hr
def alL{nm:LI}{ms:aF}{b:LI}{y:LI×List (LN×LI)}(h:jX nm ms b=some y):zW ms (y.2.map (·.1)):=by
 unfold jX book1 at h;split at h
 ·split at h
  ·unfold Mv at h;split at h
   ·simp_all
   ·split at h
    ·unfold Fz at h;split at h
     ·rename_i es e;split at h
      ·rw[←aO h];exact alK e
      ·simp_all
     ·simp_all
    ·simp_all
  ·simp_all
 ·cases h
def Ce(x:LI×aF):Flags.Locker:=⟨x.1.map B,x.2.map bU⟩
def Cf(y:LI×List (LN×LI)):Flags.Book:=⟨y.1.map B,y.2.map nG⟩
def WO(y:LI×List (LN×LI)):(Cf y).entries.map Flags.Entry.row=y.2.map (·.1):=by
 unfold Cf;rw[cO];rfl
def alM(ht:a0 t)(hb:a0 b)(hp:a0 p)(f:Flags.Locker→Flags.Book→Flags.Plate→bq→Flags.Reply):
  (∀z,Ů p=some z→FlagsK9.ofAll ϒ ş ϓ f=Flags.says z)∧
  (Ů p=none→∀x y m,fQ t=some x→jX x.1 x.2 b=some y→gR p=.ok m→Nf m∧FlagsK9.ofAll ϒ ş ϓ f=f (Ce x) (Cf y) (om m) ((uI x.2 (y.2.map (·.1)) m).map (·.1))):=by
 unfold refusal FlagsK9.ofAll;rw[aA,aA,aA];have h0:Flags.LOOKED=65536:=rfl;rw[h0];by_cases cJ:65536<t.length∨65536<b.length∨65536<p.length
 ·rw[af cJ,af cJ];exact⟨λz hz=>by rw[←aO hz];rfl,λh=>(by cases h)⟩
 ·rw[ah cJ,ah cJ];obtain⟨l1,l2⟩:=agu ht;cases el:fQ t with
  |none=>
   obtain⟨e,ee⟩:=l2 el;rw[ee];exact⟨λz hz=>by rw[←aO hz];rfl,λh=>(by cases h)⟩
  |some x=>
   rw[l1 x el];dsimp only;have lf:=M6 ht el;obtain⟨b1,b2⟩:=alh (L:=Ce x) (nm:=x.1) (ms:=x.2) rfl rfl (alJ ht el) lf (ak0 el) hb;cases eb:jX x.1 x.2 b with
   |none=>
    obtain⟨e,ee⟩:=b2 eb;rw[show(⟨x.1.map B,x.2.map bU⟩:Flags.Locker)=Ce x from rfl,ee];exact⟨λz hz=>by rw[←aO hz];rfl,λh=>(by cases h)⟩
   |some y=>
    rw[show(⟨x.1.map B,x.2.map bU⟩:Flags.Locker)=Ce x from rfl,b1 y eb];obtain⟨p1,p2⟩:=WG hp;cases ep:gR p with
    |error e=>
     obtain⟨e',ee⟩:=p2 e ep;rw[ee];exact⟨λz hz=>by rw[←aO hz];rfl,λh=>(by cases h)⟩
    |ok m=>
     obtain⟨q1,q2⟩:=p1 m ep;rw[q1];dsimp only;have ed:=alD (WO y) m;rw[show(⟨y.1.map B,y.2.map nG⟩:Flags.Book)=Cf y from rfl,←ed,show Flags.DOUBT=1024 from rfl];by_cases hd:1024<sJ (y.2.map (·.1)) m.ak
     ·rw[af hd,af hd];exact⟨λz hz=>by rw[←aO hz];rfl,λh=>(by cases h)⟩
     ·rw[ah hd,ah hd];refine⟨λz hz=>(by cases hz),λ_ x' y' m' e1 e2 e3=>?_⟩;have e1:=aO e1;subst e1;rw[eb] at e2;have e2:=aO e2;subst e2;have e3:m=m':=by injection e3
      subst e3;refine⟨q2,?_⟩;rw[alF (L:=Ce x) (B:=Cf y) rfl (M8 lf) (alH ht el) (WO y) (alL eb) q2]
def alN(ht:a0 t)(hb:a0 b)(hp:a0 p):
  (∀z,Ů p=some z→PyWqbada.many t b p=[z])∧
  (Ů p=none→∀x y m,fQ t=some x→jX x.1 x.2 b=some y→gR p=.ok m→PyWqbada.many t b p=[0,(((uI x.2 (y.2.map (·.1)) m).length:Nat):Int)]):=by
 have alO:PlateNeutral.callOf [[3],t,b,p]=some (.many ϒ ş ϓ):=by
  show(PlateNeutral.text? t >>= λa=>PlateNeutral.text? b >>= λc=>PlateNeutral.text? p >>= λd=>some (FlagsK9.Call.many a c d))=_;rw[Jb ht,Jb hb,Jb hp];rfl
 have ef:PyWqbada.many t b p=(FlagsK9.ofAll ϒ ş ϓ λ_ _ _ l=>Flags.tells 0 [l.length]).ret::(((FlagsK9.ofAll ϒ ş ϓ λ_ _ _ l=>Flags.tells 0 [l.length]).nums.map λ(n:Nat)=>(n:Int))++(FlagsK9.ofAll ϒ ş ϓ λ_ _ _ l=>Flags.tells 0 [l.length]).bytes.map λ(b:UInt8)=>(b.toNat:Int)):=by
  unfold PyWqbada.many PlateNeutral.f;rw[alO];rfl
 rw[ef];obtain⟨a1,a2⟩:=alM ht hb hp λ_ _ _ l=>Flags.tells 0 [l.length];refine⟨λz hz=>?_,λh x y m e1 e2 e3=>?_⟩
 ·rw[a1 z hz];rfl
 ·obtain⟨_,e⟩:=a2 h x y m e1 e2 e3;rw[e];show[(0:Int),(((uI x.2 (y.2.map (·.1)) m).map (·.1)).length:Nat)]=_;simp
end HD
end
section
namespace HD
open PySem PySem.Spec PyProof.Rows L2
open PySem.W (Codec)
def F1{K:FR}{C N:Addr}{od uz:OA}{nm qn:Str}{bs sub:LV}{sn:LS}{ab:Bool}{col:Option Bool}{e0 e1 e2 e3 e5:Option Value}{oc:Value}{es:Array DictEntry}{ep:Nat}{sl:AO}(h1:K.lookup C=some ⟨.type "type",od,.cls ⟨nm,bs,.ref C::uc,N,qn,true,sn,sub,ab,col,false⟩,#[e0,e1,e2,e3,some (.builtin "Exception.__new__"),e5]⟩) (h2:K.lookup N=some ⟨oc,uz,.dict es ep,sl⟩)(h3:(es.all λe=>match e.key with|.str _ _=>true|_=>false)=true):QL K C N:=by
 refine⟨_,_,_,_,_,_,_,_,_,_,_,_,_,h1,?_⟩;unfold PySem.W.nsOkIn;rw[h2];exact h3
def Ng{l:LI}(h:l.all Àz=true):JM.a0 l:=λx hx=>by
 have q:=kZ.mp h x hx;exact Codec.inInt_iff.mp q
def alP:typeLookup (.type "Exception") ("kind":Str)=pure none:=by rw[typeLookup_type,builtinLookup_eq_fast];kernel_rfl
def alQ:typeLookup (.type "Exception") ("line":Str)=pure none:=by rw[typeLookup_type,builtinLookup_eq_fast];kernel_rfl
section
variable{P:Pg}{w:Wd}{K:FR}{h base:Heap}{mg:MG}
def bZ(K:FR)(g x:Str)(st:Stmt):Prop:=∃f fd,PySem.W.nsIn K mainGlobals g=some Áw∧br K x x st f fd
def ar1{R:LV→Prop}(h:∀a,R [a]):∀us,us.length=1→R us:=λus hl=>by
 obtain⟨a,rfl⟩:=Th hl;exact h a
def ar2{R:LV→Prop}(h:∀a b,R [a,b]):∀us,us.length=2→R us:=λus hl=>by
 obtain⟨a,b,rfl⟩:=Ti hl;exact h a b
def F2{R:LV→Prop}(h:∀a b c,R [a,b,c]):∀us,us.length=3→R us:=λus hl=>by
 obtain⟨a,b,c,rfl⟩:=Tj hl;exact h a b c
def F3{R:LV→Prop}(h:∀a b c d,R [a,b,c,d]):∀us,us.length=4→R us:=λus hl=>by
 obtain⟨a,b,c,d,rfl⟩:=agS hl;exact h a b c d
theorem F4{R:LV→Prop}{n:Nat}(h:∀a us,us.length=n→R (a::us)):∀us,us.length=n+1→R us
 |a::us,hl=>h a us (by simpa using hl)
def bZ.dn(P:Pg)(w:Wd)(base:Heap){CX:mT}{k:Nat}{g x:Str}{st:Stmt}{ps:LS}{sp:Sp}(D:bZ K g x st)(X:K.In h)(G:h.Ns mainGlobals mg)(hk:∀f fd,br K x x st f fd→Ê CX k f fd ps sp)(hb:∀(kV iO pm:Value)(an:OA)(aG ct:Value)(us:LV),us.length=ps.length→bindArgs (PySem.W.fnOf x x (tq st) Äz Án .none kV iO pm an aG ct) ⟨us,[]⟩=pure ϟ:=by first|exact λ_ _ _ _ _ _=>ar1 λ_=>rfl|exact λ_ _ _ _ _ _=>ar2 λ_ _=>rfl|exact λ_ _ _ _ _ _=>F2 λ_ _ _=>rfl|exact λ_ _ _ _ _ _=>F3 λ_ _ _ _=>rfl):Ć CX k g ps sp:=
 let ⟨f,fd,a,F⟩:=D
 ⟨f,fd,hk f fd F,PySem.W.mg_of X G a,F.kp,F.binds hb⟩
structure kT(K:FR)(x qn:Str)(C:Addr)(st:Stmt)(fs:LS):Prop where
 a:PySem.W.nsIn K mainGlobals x=some (some ý)
 f:∃g fd,Mk K C g∧br K "__init__" qn st g fd
 c:kh K C
 n:(fs.all λf=>match PySem.W.findIn K ý f with|some none=>true|_=>false)=true
def kT.no{x qn:Str}{C:Addr}{st:Stmt}{fs:LS}(D:kT K x qn C st fs){f:Str}(hf:f∈fs):ϧ f:=by
 have:=kZ.mp D.n f hf;unfold gw;split at this
 ·assumption
 ·cases this
def kT.t{x qn:Str}{C:Addr}{st:Stmt}{fs:LS}(D:kT K x qn C st fs):lu K C fs:=⟨D.c,λ_ hf=>D.no hf⟩
def kT.mk'(P:Pg)(w:Wd)(base:Heap){x qn:Str}{C:Addr}{st:Stmt}{fs:LS}(D:kT K x qn C st fs)(X:K.In h)(G:h.Ns mainGlobals mg)(d:∀f aG A outer s H E,jI (ō ("self"::fs) qn Án f aG A outer s H E).rD Äz (En K 1 fs)) (S:bC ("self"::fs) ("self"::fs) Án:=by exact cu rfl È) (hs:fs.length≤1000:=by decide)(hb:∀(kV iO pm:Value)(an:OA)(aG ct:Value)(us:LV),us.length=("self"::fs:LS).length→bindArgs (PySem.W.fnOf "__init__" qn (tq st) Äz Án .none kV iO pm an aG ct) ⟨us,[]⟩=pure (("self"::fs:LS).zip us):=by first|exact λ_ _ _ _ _ _=>F2 λ_ _ _=>rfl|exact λ_ _ _ _ _ _=>F3 λ_ _ _ _=>rfl|exact λ_ _ _ _ _ _=>F4 λ_=>F3 λ_ _ _ _=>rfl|exact λ_ _ _ _ _ _=>F4 λ_=>F4 λ_=>F4 λ_=>F3 λ_ _ _ _=>rfl):ÿ x C fs:=
 let ⟨g,fd,m,F⟩:=D.f
 ⟨g,fd,m,aeG F D.c (λ_ h=>D.no h) S hs (d g),PySem.W.mg_of X G D.a,F.binds hb⟩
def Ci(K:FR)(x:Str)(i:Int):Prop:=∃t,PySem.W.nsIn K mainGlobals x=some (some Áo)
def Ci.cn{x:Str}{i:Int}(c:Ci K x i)(X:K.In h)(G:h.Ns mainGlobals mg):Cn mg x Âr:=let ⟨t,e⟩:=c;⟨_,PySem.W.mg_of X G e,⟨t,rfl⟩⟩
def Ct(K:FR)(x s:Str):Prop:=∃t,PySem.W.nsIn K mainGlobals x=some (some (.str s t))
def Ct.cn{x s:Str}(c:Ct K x s)(X:K.In h)(G:h.Ns mainGlobals mg):Cn mg x (.str s):=let ⟨t,e⟩:=c;⟨_,PySem.W.mg_of X G e,⟨t,rfl⟩⟩
def Tu(K:FR)(x:Str)(vs:aq):Prop:=∃a o us n s,PySem.W.nsIn K mainGlobals x=some (some Ě)∧K.lookup a=some ⟨.type "tuple",o,.seq us n,s⟩∧us.size≤100∧ba vs us.toList
def Tu.tn{x:Str}{vs:aq}(c:Tu K x vs)(X:K.In h)(G:h.Ns mainGlobals mg):Tn K mg x vs:=let ⟨_,_,_,_,_,e,l,z,v⟩:=c;⟨_,PySem.W.mg_of X G e,λ_=>.inr ⟨_,_,_,l,rfl,rfl,gW z Ø,v⟩⟩
def dfk{g x:Str}{st:Stmt}{f:Addr}{oc kV iO pm aG ct:Value}{od an:OA}{mG:AO}(a:PySem.W.nsIn K mainGlobals g=some Áw:=by k_is)(l:K.lookup f=some ⟨oc,od,.func (PySem.W.fnOf x x (tq st) Äz Án .none kV iO pm an aG ct),mG⟩:=by k_is)(c:PySem.W.codeIn K aG x=true:=by k_is)(k:PySem.W.keepIn K ą=true:=by k_is):bZ K g x st:=⟨f,_,a,mY l c k⟩
def fT{x:Str}{i:Int}{t:Tok}(e:PySem.W.nsIn K mainGlobals x=some (some Áo):=by k_is):Ci K x i:=⟨t,e⟩
def Ab(K:FR)(x:Str):Prop:=PySem.W.nsIn K mainGlobals x=some none
def nH{x:Str}(e:PySem.W.nsIn K mainGlobals x=some none:=by k_is):Ab K x:=e
def Ab.z{x:Str}(c:Ab K x)(X:K.In h)(G:h.Ns mainGlobals mg):mg x=none:=PySem.W.mg_none_of X G c
structure F5(K:FR)(x:Str)(C N:Addr):Prop where
 a:PySem.W.nsIn K mainGlobals x=some (some ý)
 c:XC K C N
 k:PySem.W.keepIn K ý=true
end
def all_mk{P:Pg}{w:Wd}{K:FR}{h:Heap}{mg:MG}{fa:Addr}(X:K.In h)(G:h.Ns mainGlobals mg)(hfa:mg "many"=some (.ref fa)){CS CG CP CK CL CV CQ CE fe CR CF CN NN CB NB CT NT mj NP cM TM fM:Addr}{ocM kVM dcM pmM ctM:Value}{odM anM odC:OA}{slM slC:AO}{v0 v1 v2 v3 v4 v5 v6 v8 xi IS IT IU IV IW:Value}{fl tx:Int}{tf tt ts:Tok}{bb:Bool}{xs:Str}(al4:bZ K "cell_behind" "cell_behind" Jc)(al5:bZ K "cells_seen" "cells_seen" Jd)(al6:bZ K "spelled" "spelled" Je)(al7:bZ K "cut" "cut" Jf)(al8:bZ K "whole_lines" "whole_lines" Jg)(al9:bZ K "place_among" "place_among" Jh)(ama:bZ K "places_in" "places_in" Ji)(amb:bZ K "read_colours" "read_colours" Jj)(amc:bZ K "is_name" "is_name" Jk)(amd:bZ K "name_behind" "name_behind" Jl)(ame:bZ K "read_locker" "read_locker" Jm)(amf:bZ K "read_name" "read_name" Jn)(amg:bZ K "read_digit" "read_digit" Jo)(amh:bZ K "read_kind" "read_kind" Jp)(ami:bZ K "are_in_order_lockers" "are_in_order" Jq)(amj:bZ K "may_follow" "may_follow" Jr)(amk:bZ K "are_different" "are_different" Js)(aml:bZ K "has_twice" "has_twice" Jt)(amm:bZ K "read_plate" "read_plate" Jv)(amn:bZ K "read_line" "read_line" Jw)(amo:bZ K "read_side" "read_side" Jx)(amq:bZ K "read_row" "read_row" Jy)(amr:bZ K "may_stand" "may_stand" Jz)(ams:bZ K "lacks_flags" "lacks_flags" JA)(amt:bZ K "lacks_cells" "lacks_cells" JB)(amu:bZ K "has_whole_hoists" "has_whole_hoists" JC)(amv:bZ K "put" "put" JD)(amw:bZ K "sighting_of" "sighting_of" JE)(amx:bZ K "view_of" "view_of" JF)(amy:bZ K "kinds_along" "kinds_along" JG)(amz:bZ K "kinds_that_look_so" "kinds_that_look_so" JH)(amA:bZ K "may_be" "may_be" JI)(amB:bZ K "fits" "fits" JJ)(amC:bZ K "hoist_fits" "hoist_fits" JK)(amD:bZ K "fits_at" "fits_at" JL)(amE:bZ K "display_told" "display_told" JN)(amF:bZ K "copies_lacking" "copies_lacking" JO)(amG:bZ K "sames_along" "sames_along" JP)(amH:bZ K "bits_of_sames" "bits_of_sames" JQ)(amI:bZ K "places_of" "places_of" JR)(amJ:bZ K "plan_of" "plan_of" JS)(amK:bZ K "places_outside" "places_outside" JT)(amL:bZ K "copies_in" "copies_in" JU)(amM:bZ K "hoist_told" "hoist_told" JV)(amN:bZ K "flag_told" "flag_told" JW)(amO:bZ K "hang" "hang" JX)(amP:bZ K "read_book" "read_book" JY)(amQ:bZ K "numbers_of_signs" "numbers_of_signs" JZ)(amR:bZ K "read_entry" "read_entry" J0)(amS:bZ K "read_signs" "read_signs" J1)(amT:bZ K "read_meaning" "read_meaning" J2)(amU:bZ K "are_in_order_books" "are_in_order" J3)(amV:bZ K "can_be_shown" "can_be_shown" J4)(amW:bZ K "readings_of" "readings_of" J5)(amX:bZ K "entries_in_doubt" "entries_in_doubt" J6)(amY:bZ K "product" "product" J7)(amZ:bZ K "all_rows" "all_rows" J8)(am0:bZ K "sides_of" "sides_of" J9)(am1:bZ K "answered" "answered" Ka)(am2:bZ K "found" "found" Kb)(F6:kT K "Sighting" "Sighting.__init__" CS aeh ["shape","cells"])(Cg:kT K "Glimpse" "Glimpse.__init__" CG aei ["above","below","flags"])(Cj:kT K "Plate" "Plate.__init__" CP aej ["side","classes","glimpses"])(wa:kT K "Kind" "Kind.__init__" CK aef ["role","name","which","copies","shape","look"])(zX:kT K "Locker" "Locker.__init__" CL aeg ["name","kinds"])(Nh:kT K "View" "View.__init__" CV aek ["side","glimpses"])(Ck:kT K "Plan" "Plan.__init__" CQ ael ["sames","gaps","spares"])(Cm:kT K "Entry" "Entry.__init__" CE aem ["row","meaning"])(Ni:kT K "Book" "Book.__init__" fe aen ["name","entries"])(am3:kT K "Reading" "Reading.__init__" CR aeo ["entries","hoists","sides"])(WQ:kT K "Finding" "Finding.__init__" CF aep ["locker","book","plate","readings"])(Nj:F5 K "NoLocker" CN NN)(am4:PySem.W.nsIn K NN "__init__"=some none)(Nk:F5 K "NoBook" CB NB)(am5:PySem.W.nsIn K NB "__init__"=some none)(Nl:F5 K "TooMuchInDoubt" CT NT)(am6:PySem.W.nsIn K NT "__init__"=some none)(Nm:F5 K "NoPlate" mj NP)(y1:PySem.W.nsIn K NP "kind"=some none)(y2:PySem.W.nsIn K NP "line"=some none)(y3:∃f fd,PySem.W.nsIn K NP "__init__"=some Áw∧PySem.W.isFn K ą=true∧br K "__init__" "NoPlate.__init__" Ju f fd)(nz:PySem.W.findCls K (.type "Exception") (.type "type") "__init__"=some (.val (.builtin "Exception.__init__")))(Nn:Ci K "FRONT" 0)(F7:Ci K "BEHIND" 1)(F8:Ci K "CELLS" 16)(F9:Ci K "ROW" 4)(Np:Ci K "MOST_BYTES" 65536)(Ga:Ci K "LINE_END" 10)(x3:Ci K "BLANK" 32)(Nq:Ci K "LONGEST_NAME" 8)(x4:Ci K "SIGN" 0)(Gb:Ci K "SAME" 1)(Nr:Ci K "MOST_COPIES" 8)(Nt:Ci K "MOST_SAME" 4)(Nu:Ci K "MOST_SIGNS" 48)(Nv:Ci K "DIGIT_ZERO" 48)(Nw:Ci K "MOST_HOISTS" 4)(Gc:Ci K "MOST_FLAGS" 8)(Ny:Ci K "UNKNOWN_SIDE" 2)(Nz:Ci K "UNSEEN_SHAPE" 3)(NA:Ci K "UNSEEN_CELL" 16)(Gd:Ci K "SIDE_LINE" 0)(Ge:Ci K "HOIST_LINE" 1)(NC:Ci K "SHAPE_LINE" 2)(ND:Ci K "CELLS_LINE" 3)(NF:Ci K "NO_SUCH_LINE" 1)(NG:Ci K "WRONG_PLACE" 2)(NH:Ci K "TITLE_LINES" 2)(NI:Ci K "MOST_ENTRIES" 2048)(NJ:Ci K "LONGEST_MEANING" 64)(NK:Ci K "FULL_STOP" 46)(NL:Ci K "LAST_PRINTED" 126)(NM:Ci K "MOST_IN_DOUBT" 1024)(NQ:Ct K "COLOUR_SIGNS" "0123456789abcdef")(NR:Ct K "NAME_SIGNS" "ABCDEFGHIJKLMNOPQRSTUVWXYZ0123456789")(NS:Ct K "SEEN_SIGNS" "0123456789abcdef?")(NU:Tu K "SHAPES" ((["square","tails","long"]:LS).map V.str))(NV:Tu K "ROLES" ((["sign","same","answer"]:LS).map V.str))(NW:Tu K "SIDES" ((["front","behind","unknown"]:LS).map V.str))(NX:Tu K "HOIST_LINES" ((["hoist","hoist above","hoist below","hoist above below"]:LS).map V.str))(NY:Tu K "SEEN_SHAPES" ((["square","tails","long","shape?"]:LS).map V.str))(NZ:Tu K "WORDS_OF_ROLES" [.int 5,.int 5,.int 4])(N0:Ab K "ord")(jG:Ab K "enumerate")(sS:Ab K "all")(Gf:Ab K "any")(g7:Ab K "len")(x5:Ab K "range")(Gg:Ab K "sum")(Gh:Ab K "dict")(N5:Ab K "zip")(Gi:Ab K "list")(Co:Ab K "max")(Gj:Ab K "min")(Gk:Ab K "tuple")(N6:Ab K "Exception")(aM:PySem.W.nsIn K mainGlobals "many"=some (some (.ref fM))) (lM:K.lookup fM=some ⟨ocM,odM,.func (PySem.W.fnOf "many" "many" (tq pA) (i9 pA) (a7 pA) .none kVM dcM pmM anM (.ref cM) ctM),slM⟩) (oM:PySem.W.codeIn K (.ref cM) "many"=true) (kM:PySem.W.keepIn K (.ref fM)=true)(lC:K.lookup cM=some ⟨.type "code",odC,.fields #[v0,v1,v2,v3,v4,v5,v6,.int fl tf,v8,.bool bb,.int tx tt,.ref TM,xi,IS,IT,IU,IV,IW,.str xs ts],slC⟩) (WR:(cM==TM)=false) (nT:K.lookup TM=none) (nd:[CN,CB,mj,CT].Nodup):
  ∃(fd:FD)(o:Obj)(c T:Addr),K.lookup fa=some o∧o.data=.func fd∧fd.code=.ref c∧Bd K c T∧K.lookup T=none∧(∀(s:Sh)(us:LV),us.length=(["t","b","p"]:LS).length→BindsTo s fd ⟨us,[]⟩ ((["t","b","p"]:LS).zip us))∧
   ∀base:Heap,K.In base→base.Ns mainGlobals mg→xh mg base→Ê aE 9 fa fd ["t","b","p"] (MN K T):=by
 have e:=hfa.symm.trans (PySem.W.mg_of X G aM);cases e;have Nn:=Nn.cn X G;have F7:=F7.cn X G;have F8:=F8.cn X G;have F9:=F9.cn X G;have Np:=Np.cn X G;have Ga:=Ga.cn X G;have x3:=x3.cn X G;have Nq:=Nq.cn X G;have x4:=x4.cn X G;have Gb:=Gb.cn X G;have Nr:=Nr.cn X G;have Nt:=Nt.cn X G;have Nu:=Nu.cn X G;have Nv:=Nv.cn X G;have Nw:=Nw.cn X G;have Gc:=Gc.cn X G;have Ny:=Ny.cn X G;have Nz:=Nz.cn X G;have NA:=NA.cn X G;have Gd:=Gd.cn X G;have Ge:=Ge.cn X G;have NC:=NC.cn X G;have ND:=ND.cn X G;have NF:=NF.cn X G;have NG:=NG.cn X G;have NH:=NH.cn X G;have NI:=NI.cn X G;have NJ:=NJ.cn X G;have NK:=NK.cn X G;have NL:=NL.cn X G;have NM:=NM.cn X G;have NQ:=NQ.cn X G;have NR:=NR.cn X G;have NS:=NS.cn X G;have NU:=NU.tn X G;have NV:=NV.tn X G;have NW:=NW.tn X G;have NX:=NX.tn X G;have NY:=NY.tn X G;have NZ:=NZ.tn X G;have N0:=N0.z X G;have jG:=jG.z X G;have sS:=sS.z X G;have Gf:=Gf.z X G;have g7:=g7.z X G;have x5:=x5.z X G;have Gg:=Gg.z X G;have Gh:=Gh.z X G;have N5:=N5.z X G;have Gi:=Gi.z X G;have Co:=Co.z X G;have Gj:=Gj.z X G;have Gk:=Gk.z X G;have N6:=N6.z X G;have TC:lW K ⟨CS,CG,CP⟩:=⟨F6.c,Cg.c,Cj.c,F6.no Â,F6.no Â,Cg.no Â,Cg.no Â,Cg.no Â,Cj.no Â,Cj.no Â,Cj.no Â⟩;have TK:rW K CK:=⟨wa.c,wa.no Â,wa.no Â,wa.no Â,wa.no Â,wa.no Â,wa.no Â⟩;have TL:LkT K CL:=⟨zX.c,zX.no Â,zX.no Â⟩;have XN:ϊ "NoLocker" CN NN:=⟨Nj.c,am4,PySem.W.mg_of X G Nj.a,Nj.k⟩;have XB:ϊ "NoBook" CB NB:=⟨Nk.c,am5,PySem.W.mg_of X G Nk.a,Nk.k⟩;have XT:ϊ "TooMuchInDoubt" CT NT:=⟨Nl.c,am6,PySem.W.mg_of X G Nl.a,Nl.k⟩;have XP:Ew K mg mj NP:=⟨Nm.c,⟨y1,alP⟩,⟨y2,alQ⟩,PySem.W.mg_of X G Nm.a,Nm.k⟩;refine⟨_,_,cM,TM,lM,rfl,rfl,RM lC WR,nT,λs us hu=>.of_eq (F2 (R:=λus=>bindArgs _ ⟨us,[]⟩=pure (_:List (Str×Value))) (λ_ _ _=>rfl) us hu),λbase _ _ hb=>?_⟩;have N7:=al6.dn P w base X G λf fd F=>aer F N0;have x6:=al7.dn P w base X G λf fd F=>aeu F;obtain⟨fS,xl,GS,mS,kS,bS⟩:=id N7;have N8:=al9.dn P w base X G λf fd F=>aex F jG GS mS kS bS;have N9:=ama.dn P w base X G λf fd F=>aeB F sS GS mS kS bS;obtain⟨fP,Kh,GP,mP,kP,bP⟩:=id N9;obtain⟨uC,mC,rC⟩:=NQ;have WS:=amb.dn P w base X G λf fd F=>aeD F g7 mC rC GP mP kP bP;have WT:=amc.dn P w base X G λf fd F=>afp F g7 Nq NR N9;have WU:=amd.dn P w base X G λf fd F=>afr F g7 x3 x6 N7 WT;have WV:=al8.dn P w base X G λf fd F=>aft F Ga x6;have WW:=F6.mk' P w base X G λ_ _ _ _ _ _ _=>aB ĭ (aD Ĭ);have dMG:=Cg.mk' P w base X G λ_ _ _ _ _ _ _=>aB ĭ ź;have dMP:=Cj.mk' P w base X G λ_ _ _ _ _ _ _=>aB ĭ ź;have dMK:=wa.mk' P w base X G λ_ _ _ _ _ _ _=>aB ĭ (aB Ĭ (aB (e9 Ù õ rfl) (aB (e9 Ù ı rfl) (aB (e9 Ù Ãx rfl) (aD (e9 Ù Ãe rfl))))));have dML:=zX.mk' P w base X G λ_ _ _ _ _ _ _=>aB ĭ (aD Ĭ);have dMV:=Nh.mk' P w base X G λ_ _ _ _ _ _ _=>aB ĭ (aD Ĭ);have dMQ:=Ck.mk' P w base X G λ_ _ _ _ _ _ _=>aB ĭ ź;have dME:=Cm.mk' P w base X G λ_ _ _ _ _ _ _=>aB ĭ (aD Ĭ);have dMB:=Ni.mk' P w base X G λ_ _ _ _ _ _ _=>aB ĭ (aD Ĭ);have dMR:=am3.mk' P w base X G λ_ _ _ _ _ _ _=>aB ĭ ź;have dMF:=WQ.mk' P w base X G λ_ _ _ _ _ _ _=>aB ĭ (aB Ĭ (aB (e9 Ù õ rfl) (aD (e9 Ù ı rfl))));have dRN:=amf.dn P w base X G λf fd F=>afx F XN WT;have dRD:=amg.dn P w base X G λf fd F=>afz F g7 XN Nv;have dRK:=amh.dn P w base X G λf fd F=>afC F g7 XN x3 NV NZ x4 Gb Nt Nr NU x6 N8 dRN dRD WS dMK;have dHT:=aml.dn P w base X G λf fd F=>afZ F Gf jG;have anm:=amj.dn P w base X G λf fd F=>af1 F TK x4;have dOr:=ami.dn P w base X G λf fd F=>af3 F TK g7 sS jG x4 Nu anm;have dDi:=amk.dn P w base X G λf fd F=>af6 F TK x4 dHT;have dRL:=ame.dn P w base X G λf fd F=>af8 F XN WV WU dRK dOr dDi dML;have anr:=amq.dn P w base X G λf fd F=>aeI F g7 F9 NS N9;have ans:=amo.dn P w base X G λf fd F=>aeJ F g7 x3 NW x6 N7 N8 WS;have ant:=amn.dn P w base X G λf fd F=>aeN F jG NX NY ans N8 anr;have Oa:=ams.dn P w base X G λf fd F=>aeT F TC;have WX:=amt.dn P w base X G λf fd F=>aeW F TC g7 F8 Oa;have dWh:=amu.dn P w base X G λf fd F=>aeY F TC Oa WX;have anv:=amr.dn P w base X G λf fd F=>ae0 F TC g7 Gd Ge ND Nw Gc Oa WX;have anw:=amv.dn P w base X G λf fd F=>ae8 F TC Gd Ge NC dMG WW;obtain⟨gN,Su,n1,n2,FN⟩:=y3;have dNp:So P w K mg base mj NP:=⟨_,_,XP,n1,n2,afg FN XP N6 nz,FN.binds λ_ _ _ _ _ _=>F2 λ_ _ _=>rfl⟩;have dRP:=amm.dn P w base X G λf fd F=>afj F TC g7 jG Ga NF NG x6 dMP dNp ant anv anw dWh;have dBh:=al4.dn P w base X G λf fd F=>agU F F9;have dCS:=al5.dn P w base X G λf fd F=>agV F x5 F7 F8 dBh;have dSO:=amw.dn P w base X G λf fd F=>agX (C:=⟨CS,CG,CP⟩) F TK WW dCS;have anD:=amA.dn P w base X G λf fd F=>agY F TC sS jG Nz NA;have dKS:=amz.dn P w base X G λf fd F=>ag0 F jG anD;have dKA:=amy.dn P w base X G λf fd F=>ag2 F TC dKS;have dVO:=amx.dn P w base X G λf fd F=>ag9 F TC dMV dSO dKA;have dFA:=amD.dn P w base X G λf fd F=>ahc F sS jG;have dHF:=amC.dn P w base X G λf fd F=>ahd F TC g7 Gf x5 dFA;have dFi:=amB.dn P w base X G λf fd F=>ahf F TC Nh.t sS jG dHF;have dBS:=amH.dn P w base X G λf fd F=>ahi F TK Gg jG;have dSA:=amG.dn P w base X G λf fd F=>ahl F g7 x5 dBS;have dPO:=amK.dn P w base X G λf fd F=>ahm F g7;have dCI:=amL.dn P w base X G λf fd F=>ahn F TK Gg jG;have dLa:=amF.dn P w base X G λf fd F=>aho F TK Gh;have dPf:=amI.dn P w base X G λf fd F=>ahx F N5;have anR:=amJ.dn P w base X G λf fd F=>ahE F Ck.t g7 Gi x5 Co dMQ dPO dCI;have dHa:=amO.dn P w base X G λf fd F=>ahT F Ck.t jG Co Gj;have dFT:=amN.dn P w base X G λf fd F=>ahY F Ck.t g7 x5 dHa;have anU:=amM.dn P w base X G λf fd F=>ah4 F jG dFT;have WY:=amE.dn P w base X G λf fd F=>aif F TK Ck.t Gi jG Gj Gb dLa dSA dPf anR anU;have dRM:=amT.dn P w base X G λf fd F=>aiu F g7 sS XB NJ x3 NL x6;have dNu:=amQ.dn P w base X G λf fd F=>aiz F TK Gh Gk jG x4;have anY:=amS.dn P w base X G λf fd F=>aiD F g7 Gk XB Gc NK x6;have anZ:=amR.dn P w base X G λf fd F=>aiG F XB x3 dME anY dRM;have dOB:=amU.dn P w base X G λf fd F=>aiH F Cm.t g7 sS jG;have dCB:=amV.dn P w base X G λf fd F=>aiI F Cm.t sS WY;have dRB:=amP.dn P w base X G λf fd F=>aiO F XB zX.t g7 NH NI WV WU dNu anZ dOB dCB dMB;have dED:=amX.dn P w base X G λf fd F=>aiU F TC Ni.t Cm.t g7 jG;have dPr:=amY.dn P w base X G λf fd F=>aiV F;have dSd:=am0.dn P w base X G λf fd F=>aiX F TC Nn F7 Ny;have dAR:=amZ.dn P w base X G λf fd F=>ai4 F;have dRe:=amW.dn P w base X G λf fd F=>aji F XT TC zX.t Ni.t Cm.t Nh.t g7 NM dED dPr dVO dSd dAR WY dFi dMR;have dFo:=am2.dn P w base X G λf fd F=>ajL (k:=⟨⟨CS,CG,CP⟩,CL,CK,fe,CE,CR,CF⟩) F dRL dRB dRP dRe dMF;have dAn:=am1.dn P w base X G λf fd F=>ajQ (k:=⟨⟨CS,CG,CP⟩,CL,CK,fe,CE,CR,CF⟩) F XN XB XP XT nd g7 Co Np dFo (ajW (k:=⟨⟨CS,CG,CP⟩,CL,CK,fe,CE,CR,CF⟩) (pm:=(mg "__name__").getD .none) WQ.t g7);exact ajY (mY (st:=pA) lM oM kM) rfl (RM lC WR) hb dAn
end HD
end
section
open PySem.W (Codec)
open PySem PySem.W PyProof.Rows
set_option maxRecDepth 100000 in
set_option maxHeartbeats 0 in
theorem PySem.Challenge.cw_halfseendesk_s03_many_holds : PySem.Challenge.rw_halfseendesk_s03_many.Holds := by
 refine PySem.W.holds_os (q:=HD.kQ) (loose:=HD.kL) (Xt:=HD.kX) (XP:=PySem.W.XL HD.kQ []) (Yf:=PySem.W.Hook.obs ġ) (Ya:=PySem.W.Hook.val ġ) (YP:=PySem.W.Hook.says ġ) (N:=11158) HD.X5 (PySem.W.Hook.of ġ) (PySem.W.Hook.keeps ġ) (λs e=>PySem.W.xl_of s (uQ.mp e).1) PySem.W.XL.keeps Ò Ò Ò (λs e=>PySem.W.recFacts_of (uQ.mp e).2) PySem.W.os_shapes È È ⟨rfl,rfl,rfl,rfl,rfl,by decide+kernel⟩ ⟨[.list [],.list [],.list []],by decide+kernel,by decide+kernel⟩ ?hc
 k_fillS
 refine L2.ad0 (r:=PySem.Challenge.rw_halfseendesk_s03_many) (k:=9) (CX:=L2.aE) (ps:=["t","b","p"]) (sp:=HD.MN) È rfl rfl ⟨rfl,by decide,by decide⟩ (λw h Y=>PySem.W.kIn_of Y) (by kernel_rfl) ?F ?S (λ_ _ _ _ z=>z)
 case F=>
  intro w mg fa h Y KX G Ed;exact HD.all_mk KX G Ed HD.dfk HD.dfk HD.dfk HD.dfk HD.dfk HD.dfk HD.dfk HD.dfk HD.dfk HD.dfk HD.dfk HD.dfk HD.dfk HD.dfk HD.dfk HD.dfk HD.dfk HD.dfk HD.dfk HD.dfk HD.dfk HD.dfk HD.dfk HD.dfk HD.dfk HD.dfk HD.dfk HD.dfk HD.dfk HD.dfk HD.dfk HD.dfk HD.dfk HD.dfk HD.dfk HD.dfk HD.dfk HD.dfk HD.dfk HD.dfk HD.dfk HD.dfk HD.dfk HD.dfk HD.dfk HD.dfk HD.dfk HD.dfk HD.dfk HD.dfk HD.dfk HD.dfk HD.dfk HD.dfk HD.dfk HD.dfk HD.dfk HD.dfk HD.dfk HD.dfk Ã Ã Ã Ã Ã Ã Ã Ã Ã Ã Ã ⟨by k_is,⟨HD.F1 (by k_is) (by k_is) Â,by k_is,by k_is,by k_is⟩,by k_is⟩ (by k_is) ⟨by k_is,⟨HD.F1 (by k_is) (by k_is) Â,by k_is,by k_is,by k_is⟩,by k_is⟩ (by k_is) ⟨by k_is,⟨HD.F1 (by k_is) (by k_is) Â,by k_is,by k_is,by k_is⟩,by k_is⟩ (by k_is) ⟨by k_is,⟨HD.F1 (by k_is) (by k_is) Â,by k_is,by k_is,by k_is⟩,by k_is⟩ (by k_is) (by k_is) ⟨_,_,by k_is,by k_is,L2.mY (by k_is) (by k_is) (by k_is)⟩ (by k_is) HD.fT HD.fT HD.fT HD.fT HD.fT HD.fT HD.fT HD.fT HD.fT HD.fT HD.fT HD.fT HD.fT HD.fT HD.fT HD.fT HD.fT HD.fT HD.fT HD.fT HD.fT HD.fT HD.fT HD.fT HD.fT HD.fT HD.fT HD.fT HD.fT HD.fT HD.fT ⟨_,by k_is⟩ ⟨_,by k_is⟩ ⟨_,by k_is⟩ å å å å å å HD.nH HD.nH HD.nH HD.nH HD.nH HD.nH HD.nH HD.nH HD.nH HD.nH HD.nH HD.nH HD.nH HD.nH
   (by k_is) (by k_is) (by k_is) (by k_is) (by k_is) Ò (by kernel_rfl) Ø
 case S=>
  intro K T H xs a hT tV aqv hx;obtain⟨t,b,p,u⟩:=a;cases hx with
  |cons h1 h2=>
   cases h2 with
   |cons h3 h4=>
    cases h4 with
    |cons h5 h6=>
     cases h6;cases h1 with
     |lst s1 a1=>
      cases h3 with
      |lst s2 a2=>
       cases h5 with
       |lst s3 a3=>
        have e:=L2.IG t _ a1;subst e;have e:=L2.IG b _ a2;subst e;have e:=L2.IG p _ a3;subst e;have q:((Codec.inLen 0 66000 t&&t.all Àz)&&((Codec.inLen 0 66000 b&&b.all Àz)&&((Codec.inLen 0 66000 p&&p.all Àz)&&true)))=true:=tV;simp only[jq] at q;obtain⟨⟨q1,q2⟩,⟨q3,q4⟩,⟨q5,q6⟩,_⟩:=q;have t8:JM.a0 t:=HD.Ng q2;have b8:JM.a0 b:=HD.Ng q4;have p8:JM.a0 p:=HD.Ng q6;obtain⟨m1,m2⟩:=HD.alN t8 b8 p8;refine⟨_,_,_,t,b,p,rfl,hT,s1,s2,s3,(XS.mp q1).2,(XS.mp q3).2,(XS.mp q5).2,λx e=>HD.akT t8 e,λm e=>HD.alr p8 e,λz hz H' r hr=>?_,λhz x y m e1 e2 e3 H' r hr=>?_⟩
        ·show L2.Dw K H' _ (.list ((PyWqbada.many t b p).map .int));rw[m1 z hz];exact .lst (L2.aa.of hr) (L2.RA [z])
        ·show L2.Dw K H' _ (.list ((PyWqbada.many t b p).map .int));rw[m2 hz x y m e1 e2 e3];exact .lst (L2.aa.of hr) (L2.RA [0,_])
#print axioms PySem.Challenge.cw_halfseendesk_s03_many_holds
end
