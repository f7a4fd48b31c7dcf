import Derived.Test.YtckhafpejefbbaaGreatDoorB30

set_option maxRecDepth 100000
set_option maxHeartbeats 16000000
namespace Go.Proofs.YtckhafpejefbbaaGreatDoor
abbrev uD:=@List.length_map
section
open Tw Tw.Rf Go.Proofs.Tryz
open Go.RowKit
section
variable{B size n:Nat}{w:World}{e:TypeId}{v:Value}{xs:List Value}
def Ih:List (Nat×Nat)->List Nat
 |[]=>[]
 |q::ps=>Ih ps++[q.1,q.2]
theorem Cf(a:List (Nat×Nat)):(Ih a).length=2*a.length:=by
 induction a with
 |nil=>rfl
 |cons q a ih=>simp[Ih,ih];omega
theorem TK.own{S:List TypeId}{b c:World}(h:TK B S w b)(f:b.ownsRow w.heap.size e size v n xs)(a:b.grownBy c v.ownBlock):TK B S w c:=by
 have k:∀ {i:Nat},i<w.heap.size->c.heap[i]?=b.heap[i]? :=λ{i} d=>a.block i (aB d h.size) (λe=>by have:=(f.lt i e.symm).1;omega);exact⟨λx y=>(k y).trans (h.low x y),a.os.trans h.os,a.tape.trans h.tape,a.output.trans h.output,kB h.size a.size,λx y=>(k (zgE.1 x).1).trans (h.cells x y),λx y=>(k (zgE.1 x).1).trans (h.other x y)⟩
theorem zg9{g cap k:Nat}(h:w.ownsRow B e 1 (sL g n cap) n xs)(s:k<=n):w.ownsRow B e 1 (sL g k cap) k (xs.take k):=by
 obtain⟨m,o⟩:=h;refine⟨by simp at m ⊢;omega,?_⟩;rcases o with⟨a,_⟩|⟨r,q,j,a,b,c,p,d,f,i⟩
 ·cases a
 ·cases a;refine .inr ⟨g,cap,j,rfl,b,c,oM,d,f,?_⟩;rw[<-i,List.take_take];congr 1;omega
theorem Bs{w':World}(h:w.ownsRow B e size v n xs)(b:zG w w'):w'.ownsRow B e size v n xs:=
 Ai h λ_ _ a=>zbG b a
def zry(w:World)(B:Nat)(v:Value)(a:List (Nat×Nat)):Prop:=w.ownsRow B 3 1 v (Ih a).length ((Ih a).map λf:Nat=>Value.int .i64 f)
section
variable {w:World}{B bs bt:Nat}{l:List Tw.Rf.RC}{bad:Bool}{env:List Bnd}{lv ev sv:Value}
theorem ztc(h:ST w B bs bt l bad env lv ev sv){n a b:Nat}{r:List RC×Bool}(hr:zbh l<=5000000)(hf:Hn n l [(a,b)]=some r):
  Calls prog 131 #[pT bs,vI a,vI b] w λe w'=>e=.returned (.tuple #[])/\TK B StS w w'/\ST w' B bs bt r.1 (bad||r.2) env lv ev sv:=by
 have hfew:=h.few;have H:=bV h;have HF:=bV hf;have hlow:=h.low;have hbl:B<=w.heap.size:=by have:=(zgE.1 h.store).1;omega
 have cT:prog.cellsOf 281=4:=kR;have hii:(prog.info? 3).map (λi=>(i.zero,i.size,i.bytes))=some (some (vI 0),1,8):=kR;obtain⟨i0,hi,hz0,hz1,hz2⟩:=info_parts hii;clear h hf;go_in;go_wp2_with fail;have g0:=zwA w (.cells #[vI a,vI b] 3) none;have n0:=Ac w (.cells #[vI a,vI b] 3);obtain⟨w0,hw0⟩:∃w0,w.alloc (.cells #[vI a,vI b] 3)=w0:=⟨_,rfl⟩;rw[hw0]at g0 n0;rw[hw0];have D0:Hid (zry w0 w.heap.size (sL w.heap.size 2 2) [(a,b)]):=bV ⟨sM,.inr ⟨w.heap.size,2,_,rfl,znL _,n0,znL _,by unfold maxLen;omega,rfl,rfl⟩⟩;have H0:=bV (H.o.grown g0);have K0:=bV (TK.Ae B StS g0);clear g0 n0 hw0;go_loopg[6] n (λj tv wr=>∃(ps:List (Nat×Nat)) (lc:List RC) (gt cap:Nat),tv=sL gt (Ih ps).length cap/\Hid (zry wr w.heap.size (sL gt (Ih ps).length cap) ps)/\Hid (ST wr B bs bt lc bad env lv ev sv)/\Hid (TK B StS w wr)/\2*zbh lc+ps.length<=10000001/\lc.length=l.length/\Hid (Hn j lc ps=some r))
 case atStart=>exact⟨[(a,b)],l,w.heap.size,2,rfl,D0,H0,K0,by simp;omega,rfl,HF⟩
 case round=>
  obtain⟨ps,lc,gt,cap,rfl,D,S,K,hro,hll,HS⟩:=hrel;have hlf:lc.length<=5000000:=oM;have HLL:=bV hll;clear hll;cases gk with
  |zero=>exact absurd HS.o (by simp[Hn])
  |succ m=>
   cases ps with
   |nil=>
    have hs:=HS.o;simp only[Hn,zsI]at hs;subst hs;have hz:((Ih []).length:Int)=0:=rfl;go_wp2_with fail;go_end0;exact⟨rfl,K.o,by simpa using S.o⟩
   |cons q rest=>
    have hs:=HS.o;rw[Hn]at hs;obtain⟨x,hx,hs⟩:=zbE.1 hs;obtain⟨y,hy,hs⟩:=zbE.1 hs;have HX:=bV hx;have HY:=bV hy;have HS2:=bV hs;have hT:(Ih (q::rest)).length=2*rest.length+2:=(by rw[Cf];simp;omega);have hdc:∀j,j<(Ih (q::rest)).length->wr.cell? (aD gt j)=((Ih (q::rest)).map λf:Nat=>vI f)[j]? :=λj hj=>D.o.cellAt _ oM;have t0:wr.cell? ⟨gt,2*rest.length,none⟩=some (vI q.1):=by
     rw[hdc _ oM,sD,Ih,fB (by rw[Cf];omega),Cf,Nat.sub_self];rfl
    have t1:wr.cell? ⟨gt,2*rest.length+1,none⟩=some (vI q.2):=by
     rw[hdc _ oM,sD,Ih,fB (by rw[Cf];omega),Cf,show 2*rest.length+1-2*rest.length=1 by omega];rfl
    simp only[zB]at hro;obtain⟨T,hTT⟩:∃T,2*rest.length=T:=⟨_,rfl⟩;rw[hTT]at t0 t1 hT;rw[hT]at D ⊢;have hTn:T<=20000002:=oM;have HTT:=bV hTT;have HT2:=bV hT;clear hx hy hs HS hdc hTT hT;go_wp2_with fail;refine(Ve S.o HX.o).mono ?_;rintro e1 w2 ⟨rfl,hg⟩;have S2:=bV (S.o.grown hg);have K2:=bV (K.o.trans (TK.Ae B StS hg));have D2:=bV (Bs D.o hg);have t1':=cell_kept t1 hg sM;clear hg S K D t0 t1;go_wp2_with fail;refine(Ve S2.o HY.o).mono ?_;rintro e1 w3 ⟨rfl,hg⟩;have S3:=bV (S2.o.grown hg);have K3:=bV (K2.o.trans (TK.Ae B StS hg));have D3:=Bs D2.o hg;rw[HT2.o]at D3;have D3':Hid (zry w3 w.heap.size (sL gt (Ih rest).length cap) rest):=by
     have:=zg9 (k:=T) D3 oM;refine bV ?_;unfold zry;rw[Cf,HTT.o];have e9:(List.map (λf:Nat=>vI f) (Ih (q::rest))).take T=List.map (λf:Nat=>vI f) (Ih rest):=by
      rw[Ih,vB,List.take_left' (by rw[uD,Cf,HTT.o])]
     rw[e9]at this;exact this
    have hcap:T+2<=cap:=by
     rcases D3.2 with⟨e1,_⟩|⟨g',cap',cur,e1,_,_,a3,_⟩
     ·cases e1
     ·cases e1;exact a3
    have ltx:=(Kb HX.o).lt.2;have lty:=(Kb HY.o).lt.2;clear hg S2 K2 D2 t1' D3;by_cases hxy:x=y
    ·have hs:=HS2.o;rw[mA hxy]at hs;have HS3:=bV hs;have hxi:(x:Int)=(y:Int):=oM;subst hxy;clear hs hxi HS2;go_wp2_with fail;go_roundg m
     case measure=>omega
     case rel=>exact⟨rest,lc,gt,cap,by rw[Cf,HTT.o],D3',S3,K3,oM,HLL.o,HS3⟩
    ·have hs:=HS2.o;rw[jA hxy]at hs;obtain⟨p,hp,hs⟩:=zbE.1 hs;obtain⟨z,hz,hs⟩:=zbE.1 hs;have hxi:¬(x:Int)=(y:Int):=oM;obtain⟨_,c1,_,_,_⟩:=S3.o.cells;obtain⟨g,capl,e,p0,p1,p2,p3,pf⟩:=S3.o.type hp;subst e;obtain⟨g',capl',e,z0,z1,z2,z3,zf⟩:=S3.o.type hz;cases e;have HP:=bV hp;have HZ:=bV hz;have HS3:=bV hs;have hxl:(x:Int)<(lc.length:Int):=oM;have hyl:(y:Int)<(lc.length:Int):=oM;clear hp hz hs HS2;obtain⟨so,hso⟩:∃so:Int,(p.sort:Int)=so:=⟨_,rfl⟩;obtain⟨zo,hzo⟩:∃zo:Int,(z.sort:Int)=zo:=⟨_,rfl⟩;rw[hso]at p0;rw[hzo]at z0;have HSO:=bV hso;have HZO:=bV hzo;have gP:=zwA w3 (.cells #[vU so,vI p.a,vI p.b,vI p.foI] 281) none;have gQ:=zwA (w3.alloc (.cells #[vU so,vI p.a,vI p.b,vI p.foI] 281)) (.cells #[vU zo,vI z.a,vI z.b,vI z.foI] 281) none;have SP:=S3.o.grown gP;have SQ:=bV (SP.grown gQ);have KQ:=bV (K3.o.trans (TK.Ae B StS (Ab gP gQ)));have DQ:=bV (Bs D3'.o (Ab gP gQ));obtain⟨_,c1p,_,_,_⟩:=SP.cells;obtain⟨g',capl',e,z0p,z1p,z2p,z3p,_⟩:=SP.type HZ.o;cases e;clear gP gQ SP;obtain⟨_,c1q,c2q,_,_⟩:=SQ.o.cells;obtain⟨g',capl',e,p0q,p1q,p2q,p3q,pfq⟩:=SQ.o.type HP.o;cases e;obtain⟨g',capl',e,z0q,z1q,z2q,z3q,_⟩:=SQ.o.type HZ.o;cases e;have HGW:=bV (S3.o.types.lt g rfl).2;clear S3 K3 D3';rw[hso]at p0q;rw[hzo]at z0p z0q;have pf3:=pfq (x*4+3);have zf3:=pfq (y*4+3);clear hso hzo;obtain⟨_,hpr,hpl⟩:=(Kb HX.o).root;rw[HP.o]at hpr;cases hpr;obtain⟨_,hzr,hzl⟩:=(Kb HY.o).root;rw[HZ.o]at hzr;cases hzr;have HPL:=bV hpl;have HZL:=bV hzl;have fb:((w3.alloc (.cells #[vU so,vI p.a,vI p.b,vI p.foI] 281)).alloc (.cells #[vU zo,vI z.a,vI z.b,vI z.foI] 281)).frozen? (aD bs 2)=false:=eB _ _ _ _ _ SQ.o.store;clear hpl hzl;by_cases hps:so=118
     ·subst hps;have hs:=HS3.o;have hps:p.sort=118:=(by have:=HSO.o;omega);rw[mA hps]at hs;have HS4:=bV hs;have HPS:=bV hps;obtain⟨S4,K4⟩:=SQ.o.zoo HP.o rfl (m:=3) (v:=vI y) oM (y:={p with fo:=some y}) (by simp[Gn,RC.foI]);have D4:=bV (Ai DQ.o λ_ _ hc=>K4.cells hc dZ);have S4:=bV S4;have K4:=bV (KQ.o.trans K4);clear hs hps;go_wp2_with fail;go_roundg m
      case measure=>omega
      case rel=>
       have hrt:=M8 (c:={p with fo:=some y}) HP.o HPL.o (by simp[RC.link,HPS.o]);exact⟨rest,_,gt,cap,by rw[Cf,HTT.o],D4,S4,K4,oM,by rw[jB];exact HLL.o,HS4⟩
     ·by_cases hzs:zo=118
      ·subst hzs;have hs:=HS3.o;have hps':¬p.sort=118:=(by have:=HSO.o;omega);have hzs:z.sort=118:=(by have:=HZO.o;omega);rw[jA hps',mA hzs]at hs;have HS4:=bV hs;have HZS:=bV hzs;obtain⟨S4,K4⟩:=SQ.o.zoo HZ.o rfl (m:=3) (v:=vI x) oM (y:={z with fo:=some x}) (by simp[Gn,RC.foI]);have D4:=bV (Ai DQ.o λ_ _ hc=>K4.cells hc dZ);have S4:=bV S4;have K4:=bV (KQ.o.trans K4);clear hs hps' hzs;go_wp2_with fail;go_roundg m
       case measure=>omega
       case rel=>
        have hrt:=M8 (c:={z with fo:=some x}) HZ.o HZL.o (by simp[RC.link,HZS.o]);exact⟨rest,_,gt,cap,by rw[Cf,HTT.o],D4,S4,K4,oM,by rw[jB];exact HLL.o,HS4⟩
      ·by_cases hne:so=zo
       ·subst hne;have nP:=Ac w3 (.cells #[vU so,vI p.a,vI p.b,vI p.foI] 281);have nQ:=Ac (w3.alloc (.cells #[vU so,vI p.a,vI p.b,vI p.foI] 281)) (.cells #[vU so,vI z.a,vI z.b,vI z.foI] 281);have nP':=(Below.heap_alloc (w3.alloc (.cells #[vU so,vI p.a,vI p.b,vI p.foI] 281)) (.cells #[vU so,vI z.a,vI z.b,vI z.foI] 281) w3.heap.size sM).trans nP;have hz3:(w3.alloc (.cells #[vU so,vI p.a,vI p.b,vI p.foI] 281)).heap.size=w3.heap.size+1:=sM;have hz4:((w3.alloc (.cells #[vU so,vI p.a,vI p.b,vI p.foI] 281)).alloc (.cells #[vU so,vI z.a,vI z.b,vI z.foI] 281)).heap.size=w3.heap.size+2:=sM;rw[hz3]at nQ;have hs:=HS3.o;have hps':¬p.sort=118:=(by have:=HSO.o;omega);have hzs':¬z.sort=118:=(by have:=HZO.o;omega);have hne':¬p.sort≠z.sort:=(by have:=HSO.o;have:=HZO.o;omega);rw[jA hps',jA hzs',jA hne']at hs;have HS4:=bV hs;clear hs hps' hzs' hne' HS3 nP hz3;go_upto_region 8 with fail;obtain⟨wq,hwq⟩:∃wq,(w3.alloc (.cells #[vU so,vI p.a,vI p.b,vI p.foI] 281)).alloc (.cells #[vU so,vI z.a,vI z.b,vI z.foI] 281)=wq:=⟨_,rfl⟩;obtain⟨nb,hnb⟩:∃nb,w3.heap.size=nb:=⟨_,rfl⟩;rw[hwq]at SQ KQ DQ nP' nQ hz4 c1q pfq p0q p1q p2q p3q;rw[hwq];rw[hnb]at nP' nQ hz4 HGW;rw[hnb];clear hwq hnb c1 p0 p1 p2 p3 pf z0 z1 z2 z3 zf c1p z0p z1p z2p z3p z0q z1q z2q z3q c2q fb pf3 zf3;have hgq:=HGW.o;have pg0:=pfq (x*4);have pg1:=pfq (x*4+1);have pg2:=pfq (x*4+2);have pg3:=pfq (x*4+3);obtain⟨S4,G4⟩:=SQ.o.zr1 HP.o rfl (y:=⟨118,0,0,some y⟩) (v0:=vU 118) (v1:=vI 0) (v2:=vI 0) (v3:=vI y) rfl;have K4:=KQ.o.trans (SF.tk SQ.o (SF.zta (lv:=sL g lc.length capl) G4));have D4:=Ai DQ.o λg' c hc=>(SF.tk SQ.o (SF.zta (lv:=sL g lc.length capl) G4)).cells hc dZ;have mP:=(G4.block nb oM (by simp;omega)).trans nP';have mQ:=(G4.block (nb+1) oM (by simp;omega)).trans nQ;have hz5:=G4.size;clear G4;go_upto_region 9 with fail;obtain⟨w5,hw5⟩:∃w5,(((wq.setCell (aD g (x*4)) (vU 118)).setCell (aD g (x*4+1)) (vI 0)).setCell (aD g (x*4+2)) (vI 0)).setCell (aD g (x*4+3)) (vI y)=w5:=⟨_,rfl⟩;rw[hw5]at S4 K4 D4 mP mQ hz5;rw[hw5];have S4:=bV S4;have K4:=bV K4;have D4:=bV D4;clear hw5 pg0 pg1 pg2 pg3 pfq c1q p0q p1q p2q p3q SQ KQ DQ nP' nQ;have HRT:=bV (M8 (c:=⟨118,0,0,some y⟩) HP.o HPL.o rfl);have u0:w5.cell? (aD nb 0)=some (vU so):=zcR mP;have u1:w5.cell? (aD nb 1)=some (vI p.a):=zcR mP;have u2:w5.cell? (aD nb 2)=some (vI p.b):=zcR mP;have v1:w5.cell? ⟨nb+1,1,none⟩=some (vI z.a):=zcR mQ;have v2:w5.cell? ⟨nb+1,2,none⟩=some (vI z.b):=zcR mQ;clear mP mQ;by_cases hcm:so=62\/so=42
        ·have hcp:p.sort=62\/p.sort=42:=(by have:=HSO.o;omega);have hs:=HS4.o;rw[mA hcp]at hs;have HS5:=bV hs;clear hs hcp HS4;rcases hcm with rfl|rfl
         all_goals
          have D5:w5.ownsRow w.heap.size 3 1 (sL gt T cap) T ((Ih rest).map λf:Nat=>vI f):=by
           have:=D4.o;rw[Cf,HTT.o]at this;exact this
          have g6:=zwA w5 (.cells #[vI p.a,vI z.a,vI p.b,vI z.b] 3) none;have D6:=bV (Bs D5 g6);have S6:=bV (S4.o.grown g6);have K6:=bV (K4.o.trans (TK.Ae B StS g6));have n6:=zc7 (Ac w5 (.cells #[vI p.a,vI z.a,vI p.b,vI z.b] 3));have N6:=bV n6;have hmx:T+4<=maxLen:=(by unfold maxLen;omega);have hzw:w.heap.size<=(w5.alloc (.cells #[vI p.a,vI z.a,vI p.b,vI z.b] 3)).heap.size:=K6.o.size;have HZW:=bV hzw;clear D4 D5 S4 K4 n6 g6 hzw;go_wp2_with (at_builtin;refine wpList_append_lies _ rfl _ _ 33 rfl w.heap.size 3 i0 (vI 0) 1 8 underlying33 hi hz0 hz1 hz2 rfl dZ (sL gt T cap) T ((Ih rest).map λf:Nat=>vI f) rfl D6.o (aD w5.heap.size 0) 4 4 [vI p.a,vI z.a,vI p.b,vI z.b] rfl rfl N6.o (by intro u hu;simp at hu;rcases hu with rfl|rfl|rfl|rfl<;>rfl) dZ hmx oM HZW.o _ rfl ?_;intro g7 cap7 w7 hown7 hgrow7 _ _;have O7:=bV hown7;have G7:=bV hgrow7;clear hown7 hgrow7);go_roundg m
          case measure=>omega
          case rel=>
           have hsn:∀q,(sL gt T cap).ownBlock=some q->sv.ownBlock≠some q:=λq hq e=>by
            obtain⟨_,hs⟩:=H.o.seen;have h1:=(hs.lt q e).2;have h2:=(D6.o.lt q hq).1;omega
           have hrw:Bf (w5.alloc (.cells #[vI p.a,vI z.a,vI p.b,vI z.b] 3)) w.heap.size 3 (sL gt T cap) ((Ih rest).map λf:Nat=>vI f):=by
            unfold Bf;rw[uD,Cf,HTT.o];exact D6.o
           refine⟨(p.b,z.b)::(p.a,z.a)::rest,_,g7,cap7,?_,?_,bV (S6.o.beside hrw ⟨dZ,dZ,dZ⟩ (λ_=>hsn) G7.o),bV (K6.o.own D6.o G7.o),?_,by rw[jB];exact HLL.o,HS5⟩
           ·rw[Cf,zB,zB,<-HTT.o];rfl
           ·have:=O7.o;refine bV ?_;unfold zry;rw[Cf,zB,zB];have e1:2*(rest.length+1+1)=T+4:=(by rw[<-HTT.o];omega);rw[e1];have e2:(Ih ((p.b,z.b)::(p.a,z.a)::rest)).map (λf:Nat=>vI f)=(Ih rest).map (λf:Nat=>vI f)++[vI p.a,vI z.a,vI p.b,vI z.b]:=(by simp[Ih]);rw[e2];exact this
           ·have:=HRT.o;simp only[zB];omega
        ·have hc1:¬so=62:=λe=>hcm (.inl e);have hc2:¬so=42:=λe=>hcm (.inr e);have hcp:¬(p.sort=62\/p.sort=42):=λe=>hcm (by have:=HSO.o;omega);have hs:=HS4.o;rw[jA hcp]at hs;have HS5:=bV hs;have hb1:(so==62)=false:=(by simp[hc1]);have hb2:(so==42)=false:=(by simp[hc2]);clear hs hcp HS4 hcm;go_wp2_with fail;go_roundg m
         case measure=>omega
         case rel=>exact⟨rest,_,gt,cap,by rw[Cf,HTT.o],D4,S4,K4,by have:=HRT.o;omega,by rw[jB];exact HLL.o,HS5⟩
       ·have hs:=HS3.o;have hps':¬p.sort=118:=(by have:=HSO.o;omega);have hzs':¬z.sort=118:=(by have:=HZO.o;omega);have hne':p.sort≠z.sort:=(by have:=HSO.o;have:=HZO.o;omega);rw[jA hps',jA hzs',mA hne']at hs;cases hs;obtain⟨S4,K4⟩:=SQ.o.zvl true;have S4:=bV S4;have K4:=bV (KQ.o.trans K4);clear hps' hzs' hne';go_wp2_with fail
        (try simp only[Exit.inBlock,Exit.then]);refine bodyPost_ret (results_none rfl _ _ _) rfl ?_;exact⟨rfl,K4.o,S4.o⟩
end
end
end
namespace Tw.Rf
section
open Go Go.Proofs.YtckhafpejefbbaaGreatDoor.Tw
section
variable{sc:Sc}{e:REn}{E:List (Nat×Nat×Bool)}
def Uo(E:List (Nat×Nat×Bool)):List Nat:=(E.filter λb=>!b.2.2).map λb=>b.2.1
inductive zcl:Sc->REn->List (Nat×Nat×Bool)->Prop
 |nil:zcl [] .nil []
 |fix {sc:Sc} {e:REn} {E:List (Nat×Nat×Bool)} (h:zcl sc e E) (x:List UInt8) (j r:Nat) (hj:∀b∈E,j<b.1):zcl ((x,j)::sc) (.fix x r e) (E++[(j,r,false)])
 |dfn {sc:Sc} {e:REn} {E:List (Nat×Nat×Bool)} (h:zcl sc e E) (x:List UInt8) (j r:Nat) (t:T) (hj:∀b∈E,j<b.1):zcl ((x,j)::sc) (.dfn x r t e) (E++[(j,r,true)])
theorem zcl.Av(h:zcl sc e E):e.Av=Uo E:=by
 induction h with
 |nil=>rfl
 |fix _ x j r hj ih=>simp[REn.Av,Uo,ih]
 |dfn _ x j r t hj ih=>simp[REn.Av,Uo,ih]
structure Has(e:REn)(x:List UInt8)(E pre post:List (Nat×Nat×Bool))(j r:Nat)(an:Bool):Prop where
 split:E=pre++(j,r,an)::post
 first:∀b∈pre,b.1≠j
 look:(an=false/\e.look x=some (.inl r))\/(an=true/\∃t o,e.look x=some (.inr (r,t,o))/\o.Av=Uo pre)
theorem zcl.look(h:zcl sc e E){x:zU}(a:(sc.map (·.1)).contains x=true):∃(pre post:List (Nat×Nat×Bool)) (j r:Nat) (d:Bool),Cy sc x=(j:Int)/\Has e x E pre post j r d:=by
 induction h with
 |nil=>simp at a
 |@fix sc e E h y j r hj ih=>
  by_cases b:y=x
  ·exact⟨E,[],j,r,false,by simp[Cy,b],rfl,λf i=>by have:=hj f i;omega,.inl ⟨rfl,by simp[REn.look,b]⟩⟩
  ·obtain⟨pre,post,k,l,d,g,c⟩:=ih (by simp at a ⊢;rcases a with a|a;exact absurd a.symm b;exact a);refine⟨pre,post++[(j,r,false)],k,l,d,by simp[Cy,b,g],by rw[c.split];simp,c.first,?_⟩;simp only[REn.look,jA b];exact c.look
 |@dfn sc e E h y j r t hj ih=>
  by_cases b:y=x
  ·exact⟨E,[],j,r,true,by simp[Cy,b],rfl,λf i=>by have:=hj f i;omega,.inr ⟨rfl,t,e,by simp[REn.look,b],h.Av⟩⟩
  ·obtain⟨pre,post,k,l,d,g,c⟩:=ih (by simp at a ⊢;rcases a with a|a;exact absurd a.symm b;exact a);refine⟨pre,post++[(j,r,true)],k,l,d,by simp[Cy,b,g],by rw[c.split];simp,c.first,?_⟩;simp only[REn.look,jA b];exact c.look
end
end
end Tw.Rf
end Go.Proofs.YtckhafpejefbbaaGreatDoor
