import Derived.Test.YtckhafpejefbbaaGreatDoorB06
import Derived.Deep.LoopGhost

set_option maxRecDepth 100000
set_option maxHeartbeats 4000000
namespace Go.Proofs.YtckhafpejefbbaaGreatDoor
section
open Tw Go.Proofs.Tryz
open Go.RowKit
variable{p:Prop}{n bp gt cap:Nat}{w:World}{cur:Array Value}{s:ByteArray}{ts:List Tw.Tok}{st st':Tw.PS}{t:Tw.T}
theorem bV(h:p):Hid p:=h
theorem uh(h:Hid p):p:=h
theorem zgc(b:∀m,m<n->Cf 218 Dp m):∀m,m<=n->Cf 218 (λl ts m st=>B6 l ts m .term st) m:=by
 intro m c w bp gt cap cur s ts st t st' h a;cases m with
 |zero=>simp[B6]at a
 |succ m=>simp only[B6]at a;exact b m oM h a
theorem zc2(hT:∀m,m<n->Cf 218 Dp m)
  (h:PCtx w bp gt cap cur s ts st) (hf0:Bs s.data.toList ts n .term [19,20] st=some (t,st')) :
  Calls prog 217 #[pT bp,.func (.func 218) #[pT bp] #[],sL w.heap.size 2 2] (w.alloc (.cells #[vI 19,vI 20] 172)) (Jg w bp gt cap cur s ts t st'):=by
 cases n with
 |zero=>simp[Bs]at hf0
 |succ n=>
 rw[Bs]at hf0;obtain⟨⟨a,st1⟩,ha,hf1⟩:=zbE.1 hf0;simp only at hf1;have hP:=zgc hT;have HP:=bV hP;have HH:Hid (PCtx w bp gt cap cur s ts st):=h;have H1:Hid (B6 s.data.toList ts n .term st=some (a,st1)):=ha;have H2:Hid (Am s.data.toList ts n .term [19,20] a st1=some (t,st')):=hf1;have hbp:=h.Gp;have hgt:=h.Hs
 go_in;go_wp2_with fail;refine(uh HP n oM (HH.o.alloc _) H1.o).mono ?_;rintro e w1 ⟨v,rfl,hk,h,r⟩;have P1:Hid (PCtx w1 bp gt cap cur s ts st1):=h;have K1:Hid (Keep bp w w1):=((Keep.refl bp w).alloc _).trans hk;have z1:w.heap.size<w1.heap.size:=by have:=hk.size;simp at this;omega
 have G1:Hid (w1.heap[w.heap.size]?=some (.cells (D9 [19,20]) 172 (0,0))):=hk.at (Ac w _) oM;have R1:Hid (Rep w1 w.heap.size w1.heap.size a v):=r.wide sM (znL _);go_wp2_with fail;go_loopg[7] n (λk lv wr=>∃left stk,k<=n/\Hid (PCtx wr bp gt cap cur s ts stk)/\Hid (Keep bp w wr)/\w.heap.size<wr.heap.size/\Hid (wr.heap[w.heap.size]?=some (.cells (D9 [19,20]) 172 (0,0)))/\Hid (Rep wr w.heap.size wr.heap.size left lv)/\Hid (Am s.data.toList ts k .term [19,20] left stk=some (t,st')))
 case atStart=>exact⟨a,st1,znL _,P1,K1,z1,G1,R1,H2⟩
 case round=>
  obtain⟨left,stk,hkn,PR,KR,zr,GR,RR,HR⟩:=hrel;cases gk with
  |zero=>have:=HR.o;simp[Am]at this
  |succ k=>
  have HR2:=HR.o;rw[Am]at HR2;obtain⟨⟨sg,st2⟩,hsg,hf2⟩:=zbE.1 HR2;simp only at hf2;have H3:Hid (Ar ts [19,20] stk=some (sg,st2)):=hsg;by_cases hz:sg=0
  ·rw[mA hz]at hf2;simp only[zsI,zpI]at hf2;obtain⟨rfl,rfl⟩:=hf2;have bz:(sg==0)=true:=(by simp[hz]);go_wp2_with fail;refine(Hl PR.o [19,20] w.heap.size sM GR.o oM H3.o).mono ?_;rintro e w2 ⟨rfl,hk,h⟩;have hz2:=hk.size;have X:Hid (Keep bp w w2/\PCtx w2 bp gt cap cur s ts st2/\Rep w2 w.heap.size w2.heap.size left u7):=⟨KR.o.trans hk,h,RR.o.keep hk hbp (znL _) oM⟩;go_wp2_with fail;go_ret;exact⟨_,rfl,X.o⟩
  ·rw[jA hz]at hf2;obtain⟨⟨b,st3⟩,hb,hf3⟩:=zbE.1 hf2;simp only at hf3;have H4:Hid (B6 s.data.toList ts k .term st2=some (b,st3)):=hb;have H5:Hid (Am s.data.toList ts k .term [19,20] (.binary left.fr b.to sg left b) st3=some (t,st')):=hf3;have bz:(sg==0)=false:=(by simp[hz]);go_wp2_with fail;refine(Hl PR.o [19,20] w.heap.size sM GR.o oM H3.o).mono ?_;rintro e w2 ⟨rfl,hk,h⟩;have P2:Hid (PCtx w2 bp gt cap cur s ts st2):=h;have K2:Hid (Keep bp w w2):=KR.o.trans hk;have z2:=hk.size;have R2:Hid (Rep w2 w.heap.size w2.heap.size left u7):=RR.o.keep hk hbp (znL _) oM;have G2:Hid (w2.heap[w.heap.size]?=some (.cells (D9 [19,20]) 172 (0,0))):=hk.at GR.o oM;go_wp2_with fail;refine(uh HP k oM P2.o H4.o).mono ?_;rintro e w3 ⟨v2,rfl,hk,h,r⟩;have P3:Hid (PCtx w3 bp gt cap cur s ts st3):=h;have K3:Hid (Keep bp w w3):=K2.o.trans hk;have z3:=hk.size;have R3:Hid (Rep w3 w.heap.size w3.heap.size left u7):=R2.o.keep hk hbp (znL _) oM;have R3b:Hid (Rep w3 w.heap.size w3.heap.size b v2):=r.wide oM (znL _);have G3:Hid (w3.heap[w.heap.size]?=some (.cells (D9 [19,20]) 172 (0,0))):=hk.at G2.o oM;go_wp2_with fail;refine(Qp w3 sg R3.o R3b.o oM (znL _)).mono ?_;rintro e w4 ⟨v3,rfl,hg,r⟩;have P4:Hid (PCtx w4 bp gt cap cur s ts st3):=P3.o.kept hg;have K4:Hid (Keep bp w w4):=K3.o.trans (Keep.of_none hg);have R4:Hid (Rep w4 w.heap.size w4.heap.size (.binary left.fr b.to sg left b) v3):=r;have z4:=hg.size;have G4:Hid (w4.heap[w.heap.size]?=some (.cells (D9 [19,20]) 172 (0,0))):=(Keep.of_none (bp:=bp) hg).at G3.o oM;go_wp2_with fail;go_roundg k
   case measure=>omega
   case rel=>exact⟨_,_,oM,P4,K4,oM,G4,R4,H5⟩
theorem zgd(b:∀m,m<n->Cf 225 Dj m):∀m,m<=n->Cf 225 (λl ts m st=>B6 l ts m .call st) m:=by
 intro m c w bp gt cap cur s ts st t st' h a;cases m with
 |zero=>simp[B6]at a
 |succ m=>simp only[B6]at a;exact b m oM h a
theorem zc3(hT:∀m,m<n->Cf 225 Dj m)
  (h:PCtx w bp gt cap cur s ts st) (hf0:Bs s.data.toList ts n .call [21,22] st=some (t,st')) :
  Calls prog 217 #[pT bp,.func (.func 225) #[pT bp] #[],sL w.heap.size 2 2] (w.alloc (.cells #[vI 21,vI 22] 172)) (Jg w bp gt cap cur s ts t st'):=by
 cases n with
 |zero=>simp[Bs]at hf0
 |succ n=>
 rw[Bs]at hf0;obtain⟨⟨a,st1⟩,ha,hf1⟩:=zbE.1 hf0;simp only at hf1;have hP:=zgd hT;have HP:=bV hP;have HH:Hid (PCtx w bp gt cap cur s ts st):=h;have H1:Hid (B6 s.data.toList ts n .call st=some (a,st1)):=ha;have H2:Hid (Am s.data.toList ts n .call [21,22] a st1=some (t,st')):=hf1;have hbp:=h.Gp;have hgt:=h.Hs
 go_in;go_wp2_with fail;refine(uh HP n oM (HH.o.alloc _) H1.o).mono ?_;rintro e w1 ⟨v,rfl,hk,h,r⟩;have P1:Hid (PCtx w1 bp gt cap cur s ts st1):=h;have K1:Hid (Keep bp w w1):=((Keep.refl bp w).alloc _).trans hk;have z1:w.heap.size<w1.heap.size:=by have:=hk.size;simp at this;omega
 have G1:Hid (w1.heap[w.heap.size]?=some (.cells (D9 [21,22]) 172 (0,0))):=hk.at (Ac w _) oM;have R1:Hid (Rep w1 w.heap.size w1.heap.size a v):=r.wide sM (znL _);go_wp2_with fail;go_loopg[7] n (λk lv wr=>∃left stk,k<=n/\Hid (PCtx wr bp gt cap cur s ts stk)/\Hid (Keep bp w wr)/\w.heap.size<wr.heap.size/\Hid (wr.heap[w.heap.size]?=some (.cells (D9 [21,22]) 172 (0,0)))/\Hid (Rep wr w.heap.size wr.heap.size left lv)/\Hid (Am s.data.toList ts k .call [21,22] left stk=some (t,st')))
 case atStart=>exact⟨a,st1,znL _,P1,K1,z1,G1,R1,H2⟩
 case round=>
  obtain⟨left,stk,hkn,PR,KR,zr,GR,RR,HR⟩:=hrel;cases gk with
  |zero=>have:=HR.o;simp[Am]at this
  |succ k=>
  have HR2:=HR.o;rw[Am]at HR2;obtain⟨⟨sg,st2⟩,hsg,hf2⟩:=zbE.1 HR2;simp only at hf2;have H3:Hid (Ar ts [21,22] stk=some (sg,st2)):=hsg;by_cases hz:sg=0
  ·rw[mA hz]at hf2;simp only[zsI,zpI]at hf2;obtain⟨rfl,rfl⟩:=hf2;have bz:(sg==0)=true:=(by simp[hz]);go_wp2_with fail;refine(Hl PR.o [21,22] w.heap.size sM GR.o oM H3.o).mono ?_;rintro e w2 ⟨rfl,hk,h⟩;have hz2:=hk.size;have X:Hid (Keep bp w w2/\PCtx w2 bp gt cap cur s ts st2/\Rep w2 w.heap.size w2.heap.size left u7):=⟨KR.o.trans hk,h,RR.o.keep hk hbp (znL _) oM⟩;go_wp2_with fail;go_ret;exact⟨_,rfl,X.o⟩
  ·rw[jA hz]at hf2;obtain⟨⟨b,st3⟩,hb,hf3⟩:=zbE.1 hf2;simp only at hf3;have H4:Hid (B6 s.data.toList ts k .call st2=some (b,st3)):=hb;have H5:Hid (Am s.data.toList ts k .call [21,22] (.binary left.fr b.to sg left b) st3=some (t,st')):=hf3;have bz:(sg==0)=false:=(by simp[hz]);go_wp2_with fail;refine(Hl PR.o [21,22] w.heap.size sM GR.o oM H3.o).mono ?_;rintro e w2 ⟨rfl,hk,h⟩;have P2:Hid (PCtx w2 bp gt cap cur s ts st2):=h;have K2:Hid (Keep bp w w2):=KR.o.trans hk;have z2:=hk.size;have R2:Hid (Rep w2 w.heap.size w2.heap.size left u7):=RR.o.keep hk hbp (znL _) oM;have G2:Hid (w2.heap[w.heap.size]?=some (.cells (D9 [21,22]) 172 (0,0))):=hk.at GR.o oM;go_wp2_with fail;refine(uh HP k oM P2.o H4.o).mono ?_;rintro e w3 ⟨v2,rfl,hk,h,r⟩;have P3:Hid (PCtx w3 bp gt cap cur s ts st3):=h;have K3:Hid (Keep bp w w3):=K2.o.trans hk;have z3:=hk.size;have R3:Hid (Rep w3 w.heap.size w3.heap.size left u7):=R2.o.keep hk hbp (znL _) oM;have R3b:Hid (Rep w3 w.heap.size w3.heap.size b v2):=r.wide oM (znL _);have G3:Hid (w3.heap[w.heap.size]?=some (.cells (D9 [21,22]) 172 (0,0))):=hk.at G2.o oM;go_wp2_with fail;refine(Qp w3 sg R3.o R3b.o oM (znL _)).mono ?_;rintro e w4 ⟨v3,rfl,hg,r⟩;have P4:Hid (PCtx w4 bp gt cap cur s ts st3):=P3.o.kept hg;have K4:Hid (Keep bp w w4):=K3.o.trans (Keep.of_none hg);have R4:Hid (Rep w4 w.heap.size w4.heap.size (.binary left.fr b.to sg left b) v3):=r;have z4:=hg.size;have G4:Hid (w4.heap[w.heap.size]?=some (.cells (D9 [21,22]) 172 (0,0))):=(Keep.of_none (bp:=bp) hg).at G3.o oM;go_wp2_with fail;go_roundg k
   case measure=>omega
   case rel=>exact⟨_,_,oM,P4,K4,oM,G4,R4,H5⟩
theorem zir(g:∀m,m<n->Cf 218 Dp m):Cf 206 sumS (n+1):=by
 intro w bp gt cap cur s ts st t st' h c;rw[sumS]at c;have e:Hid (PCtx w bp gt cap cur s ts st):=h;have d:Hid (Bs s.data.toList ts n .term [19,20] st=some (t,st')):=c;have f:=bV g;have k:∀(b:Fn) (first cap:Array Value) (w:World),(Instr.makeFunc b first cap).run prog w=.ok (.func b first cap) w:=λ_ _ _ _=>rfl
 go_in;go_wp2_with fail;refine(zc2 (uh f) e.o d.o).mono ?_;rintro j a ⟨v,rfl,i⟩;have X:Hid (Keep bp w a/\PCtx a bp gt cap cur s ts st'/\Rep a w.heap.size a.heap.size t v):=i;go_wp2_with fail;go_ret;exact⟨_,rfl,X.o⟩
theorem zge(g:∀m,m<n->Cf 225 Dj m):Cf 218 Dp (n+1):=by
 intro w bp gt cap cur s ts st t st' h c;rw[Dp]at c;have e:Hid (PCtx w bp gt cap cur s ts st):=h;have d:Hid (Bs s.data.toList ts n .call [21,22] st=some (t,st')):=c;have f:=bV g;have k:∀(b:Fn) (first cap:Array Value) (w:World),(Instr.makeFunc b first cap).run prog w=.ok (.func b first cap) w:=λ_ _ _ _=>rfl
 go_in;go_wp2_with fail;refine(zc3 (uh f) e.o d.o).mono ?_;rintro j a ⟨v,rfl,i⟩;have X:Hid (Keep bp w a/\PCtx a bp gt cap cur s ts st'/\Rep a w.heap.size a.heap.size t v):=i;go_wp2_with fail;go_ret;exact⟨_,rfl,X.o⟩
end
section
open Tw Go.Proofs.Tryz
open Go.RowKit
theorem zgf{n:Nat}(hA:∀m,m<=n->Cf 233 Cs m):Cf 225 Dj (n+1):=by
 intro w bp gt cap cur s ts st t st' h hf0;rw[Dj]at hf0;obtain⟨⟨a,st1⟩,ha,hf1⟩:=zbE.1 hf0;simp only at hf1;have HA:=bV hA;have HH:Hid (PCtx w bp gt cap cur s ts st):=h;have H1:Hid (Cs s.data.toList ts n st=some (a,st1)):=ha;have H2:Hid (Aq s.data.toList ts n a st1=some (t,st')):=hf1;have hbp:=h.Gp;have hgt:=h.Hs;have fd:=Ip;have fe:=Wz
 go_in;go_wp2_with fail;refine(uh HA n (znL _) HH.o H1.o).mono ?_;rintro e w1 ⟨v,rfl,hk,h,r⟩;have P1:Hid (PCtx w1 bp gt cap cur s ts st1):=h;have K1:Hid (Keep bp w w1):=hk;have z1:w.heap.size<=w1.heap.size:=hk.size;have R1:Hid (Rep w1 w.heap.size w1.heap.size a v):=r;go_wp2_with fail;go_loopg[3] n (λk lv wr=>∃left stk,k<=n/\Hid (PCtx wr bp gt cap cur s ts stk)/\Hid (Keep bp w wr)/\w.heap.size<=wr.heap.size/\Hid (Rep wr w.heap.size wr.heap.size left lv)/\Hid (Aq s.data.toList ts k left stk=some (t,st')))
 case atStart=>exact⟨a,st1,znL _,P1,K1,z1,R1,H2⟩
 case round=>
  obtain⟨left,stk,hkn,PR,KR,zr,RR,HR⟩:=hrel;cases gk with
  |zero=>have:=HR.o;simp[Aq]at this
  |succ k=>
  have HR2:=HR.o;rw[Aq]at HR2;obtain⟨tk,htk,hf2⟩:=zbE.1 HR2;have H3:Hid (tokS ts stk=some tk):=htk;cases hba:Aj tk.sort
  ·rw[hba]at hf2;simp only[xA,if_false,zsI,zpI]at hf2;obtain⟨rfl,rfl⟩:=hf2;have HB:Hid (Aj tk.sort=false):=hba;go_wp2_with fail;refine(Ca PR.o H3.o).mono ?_;rintro e w2 ⟨rfl,hg⟩;have X:Hid (Keep bp w w2/\PCtx w2 bp gt cap cur s ts stk/\Rep w2 w.heap.size w2.heap.size left u3):=⟨KR.o.trans (Keep.of_none hg),PR.o.kept hg,RR.o.grown hg (znL _) hg.size⟩;go_wp2_with fail;refine(Cz _ _).mono ?_;rintro e w3 ⟨rfl,rfl⟩;rw[HB.o];go_wp2_with fail;go_ret;exact⟨_,rfl,X.o⟩
  ·rw[hba]at hf2;simp only[if_true]at hf2;obtain⟨⟨b,st3⟩,hb,hf3⟩:=zbE.1 hf2;simp only at hf3;have H4:Hid (Cs s.data.toList ts k stk=some (b,st3)):=hb;have H5:Hid (Aq s.data.toList ts k (.call left.fr b.to left b) st3=some (t,st')):=hf3;have HB:Hid (Aj tk.sort=true):=hba;go_wp2_with fail;refine(Ca PR.o H3.o).mono ?_;rintro e w2 ⟨rfl,hg⟩;have P2:Hid (PCtx w2 bp gt cap cur s ts stk):=PR.o.kept hg;have K2:Hid (Keep bp w w2):=KR.o.trans (Keep.of_none hg);have R2:Hid (Rep w2 w.heap.size w2.heap.size left u3):=RR.o.grown hg (znL _) hg.size;have z2:=hg.size;go_wp2_with fail;refine(Cz _ _).mono ?_;rintro e w3 ⟨rfl,rfl⟩;rw[HB.o];go_wp2_with fail;refine(uh HA k oM P2.o H4.o).mono ?_;rintro e w4 ⟨v2,rfl,hk,h,r⟩;have P4:Hid (PCtx w4 bp gt cap cur s ts st3):=h;have K4:Hid (Keep bp w w4):=K2.o.trans hk;have z4:=hk.size;have R4:Rep w4 w.heap.size w4.heap.size left u3:=R2.o.keep hk hbp (znL _) oM;have R4b:Rep w4 w.heap.size w4.heap.size b v2:=r.wide oM (znL _);obtain⟨b1,_,hb1,hv1,c0,c1⟩:=R4.node;have hp:=Sx left b1 w4 left.fr left.to c0 c1;obtain⟨b2,_,_,hv2,_,_⟩:=R4b.node;generalize ptrT left=T1 at hv1 hp;generalize ptrT b=T2 at hv2;rw[hv1]at R4;rw[hv2]at R4b;have R4':Hid (Rep w4 w.heap.size w4.heap.size left (.iface T1 (pT b1))):=R4;have R4b':Hid (Rep w4 w.heap.size w4.heap.size b (.iface T2 (pT b2))):=R4b;subst hv1 hv2;go_wp2_with fail;refine(Sy _ _ _).mono ?_;rintro e w5 ⟨rfl,hg⟩;have G5:Hid (w4.grownBy w5 none):=hg;go_wp2_with fail;refine(I5 _ _ (R4b'.o.grown G5.o (znL _) (znL _))).mono ?_;rintro e w6 ⟨rfl,hg⟩;have G6:Hid (w4.grownBy w6 none):=Ab G5.o hg;have z6:=(Ab G5.o hg).size;go_wp2_with fail;go_roundg k
   case measure=>omega
   case rel=>
    go_light;refine⟨_,_,oM,(P4.o.kept G6.o).alloc _,(K4.o.trans (Keep.of_none G6.o)).alloc _,by simp;omega,?_,H5⟩;exact⟨_,_,⟨w6.heap.size,oM,sM,rfl,Ac w6 _⟩,R4'.o.grown (Ai G6.o _) (znL _) (by simp;omega),R4b'.o.grown (Ai G6.o _) (znL _) (by simp;omega)⟩
end
section
open Tw Go.Proofs.Tryz
open Go.RowKit
variable{n bp gt cap:Nat}{w:World}{cur:Array Value}{s:ByteArray}{ts:List Tw.Tok}{st:Tw.PS}
theorem Ze(hE:Cf 81 A8 n)
  (h:PCtx w bp gt cap cur s ts st) {bfr:Nat} {st1 st2 st3 st4 st5 st6:PS} {x y:Tw.T} {c:Int} {r:Tw.Tok} (hb:Cv ts 16 st=some (bfr,st1)) (hx:A8 s.data.toList ts n st1=some (x,st2)) (hc:Ar ts [18] st2=some (c,st3)) (bc:(c==18)=true)
  (hy:A8 s.data.toList ts n st3=some (y,st4)) (hr:Tw.Au ts 17 st4=some (r,st5)) (he:Tw.endS st5=some st6) :
  Calls prog 237 #[pT bp] w (Jg w bp gt cap cur s ts (.pair bfr r.to x y) st6):=by
 have HH:Hid (PCtx w bp gt cap cur s ts st):=h;have H1:Hid (Cv ts 16 st=some (bfr,st1)):=hb;have H2:Hid (A8 s.data.toList ts n st1=some (x,st2)):=hx;have H3:Hid (Ar ts [18] st2=some (c,st3)):=hc;have H4:Hid (A8 s.data.toList ts n st3=some (y,st4)):=hy;have H5:Hid (Tw.Au ts 17 st4=some (r,st5)):=hr;have H6:Hid (Tw.endS st5=some st6):=he;have hbp:=h.Gp;have hgt:=h.Hs;have fd:=Y4;clear h hb hx hc hy hr he;go_enter_defers func237,ntmps237;go_wp2_with fail;refine(Ma HH.o _ H1.o).mono ?_;rintro e w1 ⟨rfl,hk,h⟩;have P1:Hid (PCtx w1 bp gt cap cur s ts st1):=h;have K1:Hid (Keep bp w w1):=hk;have z1:w.heap.size<=w1.heap.size:=hk.size;clear hk h;go_wp2_with fail;refine(hE P1.o H2.o).mono ?_;rintro e w2 ⟨v,rfl,hk,h,r⟩;have P2:Hid (PCtx w2 bp gt cap cur s ts st2):=h;have K2:Hid (Keep bp w w2):=K1.o.trans hk;have z2:w1.heap.size<=w2.heap.size:=hk.size;obtain⟨b1,_,_,hv,_,_⟩:=r.node;generalize ptrT x=T1 at hv;subst hv;have R2:Hid (Rep w2 w1.heap.size w2.heap.size x (.iface T1 (pT b1))):=r;clear hk h r P1 K1;go_wp2_with fail;refine(W8 P2.o 18 H3.o).mono ?_;rintro e w3 ⟨rfl,⟨hk,hz⟩,h⟩;have P3:Hid (PCtx w3 bp gt cap cur s ts st3):=h;have K3:Hid (Keep bp w w3):=K2.o.trans hk;have R3:Hid (Rep w3 w1.heap.size w2.heap.size x (.iface T1 (pT b1))):=R2.o.keep hk oM (znL _) (znL _);clear hk h P2 K2 R2;go_wp2_with fail;refine(hE P3.o H4.o).mono ?_;rintro e w4 ⟨v,rfl,hk,h,r4⟩;have P4:Hid (PCtx w4 bp gt cap cur s ts st4):=h;have K4:Hid (Keep bp w w4):=K3.o.trans hk;have z4:w3.heap.size<=w4.heap.size:=hk.size;have R4x:Hid (Rep w4 w1.heap.size w2.heap.size x (.iface T1 (pT b1))):=R3.o.keep hk oM (znL _) (znL _);obtain⟨b2,_,_,hv,_,_⟩:=r4.node;generalize ptrT y=T2 at hv;subst hv;have R4:Hid (Rep w4 w3.heap.size w4.heap.size y (.iface T2 (pT b2))):=r4;clear hk h r4 P3 K3 R3;go_wp2_with fail;refine(Cy P4.o _ H5.o).mono ?_;rintro e w5 ⟨rfl,hk,h⟩;have P5:Hid (PCtx w5 bp gt cap cur s ts st5):=h;have K5:Hid (Keep bp w w5):=K4.o.trans hk;have z5:w4.heap.size<=w5.heap.size:=hk.size;have R5x:Hid (Rep w5 w1.heap.size w2.heap.size x (.iface T1 (pT b1))):=R4x.o.keep hk oM (znL _) (znL _);have R5:Hid (Rep w5 w3.heap.size w4.heap.size y (.iface T2 (pT b2))):=R4.o.keep hk oM (znL _) (znL _);clear hk h P4 K4 R4 R4x;go_wp2_with fail;refine leaves_cons (f:=202) (args:=#[pT bp]) sM (by simp[go_sem]) ?_;refine(Ht ((P5.o.alloc _).alloc _) .returning H6.o).mono ?_;rintro e u' w9 ⟨rfl,rfl,hk9,h9⟩;refine⟨_,results_tmp rfl _ _ _,?_⟩;go_light;refine⟨_,rfl,((K5.o.alloc _).alloc _).trans hk9,h9,?_⟩;have z9:=hk9.size;simp at z9;have G:=Ai (zwA w5 (.cells #[vI bfr,vI r.to] 85) none) (.cells #[vI bfr,vI r.to,.iface T1 (pT b1),.iface T2 (pT b2)] 229);have NW:=Ac (w5.alloc (.cells #[vI bfr,vI r.to] 85)) (.cells #[vI bfr,vI r.to,.iface T1 (pT b1),.iface T2 (pT b2)] 229);rw[show(w5.alloc (.cells #[vI bfr,vI r.to] 85)).heap.size=w5.heap.size+1 from sM]at NW;exact⟨_,_,⟨w5.heap.size+1,oM,oM,rfl,hk9.at NW oM⟩,
  (R5x.o.grown G (znL _) (znL _)).keep hk9 oM oM oM,
  (R5.o.grown G (znL _) (znL _)).keep hk9 oM oM oM⟩
theorem zax(hE:Cf 81 A8 n)
  (h:PCtx w bp gt cap cur s ts st) {bfr:Nat} {st1 st2 st3 st5 st6:PS} {x:Tw.T} {c:Int} {r:Tw.Tok} (hb:Cv ts 16 st=some (bfr,st1)) (hx:A8 s.data.toList ts n st1=some (x,st2)) (hc:Ar ts [18] st2=some (c,st3)) (bc:(c==18)=false)
  (hr:Tw.Au ts 17 st3=some (r,st5)) (he:Tw.endS st5=some st6) :
  Calls prog 237 #[pT bp] w (Jg w bp gt cap cur s ts (.bracket bfr r.to x) st6):=by
 have HH:Hid (PCtx w bp gt cap cur s ts st):=h;have H1:Hid (Cv ts 16 st=some (bfr,st1)):=hb;have H2:Hid (A8 s.data.toList ts n st1=some (x,st2)):=hx;have H3:Hid (Ar ts [18] st2=some (c,st3)):=hc;have H5:Hid (Tw.Au ts 17 st3=some (r,st5)):=hr;have H6:Hid (Tw.endS st5=some st6):=he;have hbp:=h.Gp;have hgt:=h.Hs;have fd:=Y4;clear h hb hx hc hr he;go_enter_defers func237,ntmps237;go_wp2_with fail;refine(Ma HH.o _ H1.o).mono ?_;rintro e w1 ⟨rfl,hk,h⟩;have P1:Hid (PCtx w1 bp gt cap cur s ts st1):=h;have K1:Hid (Keep bp w w1):=hk;have z1:w.heap.size<=w1.heap.size:=hk.size;clear hk h;go_wp2_with fail;refine(hE P1.o H2.o).mono ?_;rintro e w2 ⟨v,rfl,hk,h,r⟩;have P2:Hid (PCtx w2 bp gt cap cur s ts st2):=h;have K2:Hid (Keep bp w w2):=K1.o.trans hk;have z2:w1.heap.size<=w2.heap.size:=hk.size;obtain⟨b1,_,_,hv,_,_⟩:=r.node;generalize ptrT x=T1 at hv;subst hv;have R2:Hid (Rep w2 w1.heap.size w2.heap.size x (.iface T1 (pT b1))):=r;clear hk h r P1 K1;go_wp2_with fail;refine(W8 P2.o 18 H3.o).mono ?_;rintro e w3 ⟨rfl,⟨hk,hz⟩,h⟩;have P3:Hid (PCtx w3 bp gt cap cur s ts st3):=h;have K3:Hid (Keep bp w w3):=K2.o.trans hk;have R3:Hid (Rep w3 w1.heap.size w2.heap.size x (.iface T1 (pT b1))):=R2.o.keep hk oM (znL _) (znL _);clear hk h P2 K2 R2;go_wp2_with fail;refine(Cy P3.o _ H5.o).mono ?_;rintro e w5 ⟨rfl,hk,h⟩;have P5:Hid (PCtx w5 bp gt cap cur s ts st5):=h;have K5:Hid (Keep bp w w5):=K3.o.trans hk;have z5:w3.heap.size<=w5.heap.size:=hk.size;have R5x:Hid (Rep w5 w1.heap.size w2.heap.size x (.iface T1 (pT b1))):=R3.o.keep hk oM (znL _) (znL _);clear hk h P3 K3 R3;go_wp2_with fail;refine leaves_cons (f:=202) (args:=#[pT bp]) sM (by simp[go_sem]) ?_;refine(Ht (P5.o.alloc _) .returning H6.o).mono ?_;rintro e u' w9 ⟨rfl,rfl,hk9,h9⟩;refine⟨_,results_tmp rfl _ _ _,?_⟩;go_light;refine⟨_,rfl,(K5.o.alloc _).trans hk9,h9,?_⟩;have z9:=hk9.size;simp at z9;have G:=zwA w5 (.cells #[vI bfr,vI r.to,.iface T1 (pT b1)] 206) none;exact⟨_,⟨w5.heap.size,oM,oM,rfl,hk9.at (Ac w5 _) oM⟩,
  (R5x.o.grown G (znL _) (znL _)).keep hk9 oM oM oM⟩
theorem Zf(k:Cf 81 A8 n):Cf 237 Ba (n+1):=by
 intro w bp gt cap cur s ts st E z j m;rw[Ba]at m;obtain⟨⟨y,A⟩,l,o⟩:=zbE.1 m;obtain⟨⟨F,B⟩,i,p⟩:=zbE.1 o;obtain⟨⟨c,C⟩,e,a⟩:=zbE.1 p;simp only at i e a;by_cases d:c=18
 ·rw[mA d]at a;obtain⟨⟨G,D⟩,r,q⟩:=zbE.1 a;obtain⟨⟨t,v⟩,h,g⟩:=zbE.1 q;obtain⟨x,f,b⟩:=zbE.1 g;simp only[zsI,zpI]at b;obtain⟨rfl,rfl⟩:=b;exact Ze k j l i e (by simp[d]) r h f
 ·rw[jA d]at a;obtain⟨⟨t,v⟩,h,g⟩:=zbE.1 a;obtain⟨x,f,b⟩:=zbE.1 g;simp only[zsI,zpI]at b;obtain⟨rfl,rfl⟩:=b;exact zax k j l i e (by simp[d]) h f
end
end Go.Proofs.YtckhafpejefbbaaGreatDoor
