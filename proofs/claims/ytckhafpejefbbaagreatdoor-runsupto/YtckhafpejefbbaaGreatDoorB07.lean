import Derived.Test.YtckhafpejefbbaaGreatDoorB06

set_option maxRecDepth 100000
set_option maxHeartbeats 4000000
namespace Go.Proofs.YtckhafpejefbbaaGreatDoor
section
open Tw Go.Proofs.Tryz
open Go.RowKit
section
variable{p:Prop}{F n:Nat}
theorem bV(h:p):Hid p:=h
theorem uh(h:Hid p):p:=h
theorem zkw{S:zU->List Tw.Tok->Nat->PS->Option (Tw.T×PS)}{p:Part}(d:∀l a m st,Dw l a (m+1) p st=S l a m st)(c:∀m,m<n->Db F S m):∀m,m<=n->Db F (λl a m st=>Dw l a m p st) m:=by
 intro m j w e i f g s a st t k h b;cases m with
 |zero=>simp[Dw]at b
 |succ m=>simp[d]at b;exact c m oM h b
theorem zcp{p:Part}{x y:Int}(hF:F=218\/F=225)(hP:∀m,m<=n->Db F (λl ts m st=>Dw l ts m p st) m){w:World}{bp gt cap:Nat}{cur:Array Value}{s:ByteArray}{ts:List Tw.Tok}{st:PS}{t:Tw.T}{st':PS}
  (h:B7 w bp gt cap cur s ts st) (hf0:Ed s.data.toList ts n p [x,y] st=some (t,st')) :
  Calls prog 217 #[pT bp,.func (.func F) #[pT bp] #[],sL w.heap.size 2 2] (w.alloc (.cells #[vI x,vI y] 172)) (Mi w bp gt cap cur s ts t st'):=by
 rcases n with _|n
 ·simp[Ed]at hf0
 rcases hF with rfl|rfl
 all_goals
  rw[Ed]at hf0;have⟨⟨a,st1⟩,ha,hf1⟩:=zbE.1 hf0;simp only at hf1;have HH:=h;have H1:=ha;have H2:=hf1;have hbp:=h.Js;go_in;go_wp21;go_call hP n oM (HH.alloc _) H1 as e w1 ⟨v,rfl,hk,h,r⟩;have P1:=h;have K1:=((Bl.refl bp w).alloc _).trans hk;have z1:w.heap.size<w1.heap.size:=by have:=hk.size;simp at this;omega
  have G1:=hk.at (Ac w _) oM;have R1:Rep w1 w.heap.size w1.heap.size a v:=r.wide sM (znL _);go_wp21;go_loopg[7] n (λk lv wr=>∃left stk,k<=n/\(B7 wr bp gt cap cur s ts stk)/\(Bl bp w wr)/\w.heap.size<wr.heap.size/\(zH wr w.heap.size (Yb [x,y]) 172)/\(Rep wr w.heap.size wr.heap.size left lv)/\(Bd s.data.toList ts k p [x,y] left stk=some (t,st')))
  case atStart=>exact⟨a,st1,znL _,P1,K1,z1,G1,R1,H2⟩
  case round=>
   have⟨left,stk,hkn,PR,KR,zr,GR,RR,HR⟩:=hrel;cases gk with
   |zero=>have:=HR;simp[Bd]at this
   |succ k=>
   have HR2:=HR;rw[Bd]at HR2;have⟨⟨sg,st2⟩,hsg,hf2⟩:=zbE.1 HR2;simp only at hf2;have H3:=hsg;by_cases hz:sg=0
   ·rw[mA hz]at hf2;simp[Option.some.injEq,Prod.mk.injEq]at hf2;obtain⟨rfl,rfl⟩:=hf2;have bz:(sg==0)=true:=(by simp[hz]);go_wp21;go_call Om PR [x,y] w.heap.size sM GR oM H3 as e w2 ⟨rfl,hk,h⟩;have hz2:=hk.size;have X:Bl bp w w2/\B7 w2 bp gt cap cur s ts st2/\Rep w2 w.heap.size w2.heap.size left u7:=⟨KR.trans hk,h,RR.Aq hk hbp (znL _) oM⟩;go_wp21;go_ret;exact⟨_,rfl,X⟩
   ·rw[jA hz]at hf2;have⟨⟨b,st3⟩,hb,hf3⟩:=zbE.1 hf2;simp only at hf3;have H4:=hb;have H5:=hf3;have bz:(sg==0)=false:=(by simp[hz]);go_wp21;go_call Om PR [x,y] w.heap.size sM GR oM H3 as e w2 ⟨rfl,hk,h⟩;have P2:=h;have K2:=KR.trans hk;have z2:=hk.size;have R2:=RR.Aq hk hbp (znL _) oM;have G2:=hk.at GR oM;go_wp21;go_call hP k oM P2 H4 as e w3 ⟨v2,rfl,hk,h,r⟩;have P3:=h;have K3:=K2.trans hk;have z3:=hk.size;have R3:=R2.Aq hk hbp (znL _) oM;have R3b:Rep w3 w.heap.size w3.heap.size b v2:=r.wide oM (znL _);have G3:=hk.at G2 oM;go_wp21;go_call Zv w3 sg R3 R3b oM (znL _) as e w4 ⟨v3,rfl,hg,r⟩;have P4:B7 w4 bp gt cap cur s ts st3:=P3.kept hg;have K4:Bl bp w w4:=K3.trans (Bl.Ax hg);have R4:=r;have z4:=hg.size;have G4:=(Bl.Ax (bp:=bp) hg).at G3 oM;go_wp21;go_roundg k
    case measure=>omega
    case rel=>exact⟨_,_,oM,P4,K4,oM,G4,R4,H5⟩
theorem zo1(d:∀m,m<n->Db 218 Ha m):Db 206 Kj (n+1):=by
 intro w f j g i s o k t l h a;rw[Kj]at a;have c:=h;have b:=a;go_in;go_wp21;go_call zcp (.inl rfl) (zkw (λ_ _ _ _=>by simp[Dw]) d) c b as e w1 ⟨v,rfl,hX⟩;have X:=hX;go_wp21;go_ret;exact⟨_,rfl,X⟩
theorem zl4(d:∀m,m<n->Db 225 Gv m):Db 218 Ha (n+1):=by
 intro w f j g i s o k t l h a;rw[Ha]at a;have c:=h;have b:=a;go_in;go_wp21;go_call zcp (.inr rfl) (zkw (λ_ _ _ _=>by simp[Dw]) d) c b as e w1 ⟨v,rfl,hX⟩;have X:=hX;go_wp21;go_ret;exact⟨_,rfl,X⟩
end
theorem zl5{n:Nat}(hA:∀m,m<=n->Db 233 Ev m):Db 225 Gv (n+1):=by
 intro w bp gt cap cur s ts st t st' h hf0;rw[Gv]at hf0;have⟨⟨a,st1⟩,ha,hf1⟩:=zbE.1 hf0;simp only at hf1;have HH:=h;have H1:=ha;have H2:=hf1;have hbp:=h.Js;have fd:=Nd;have fe:=zbd;go_in;go_wp21;go_call hA n (znL _) HH H1 as e w1 ⟨v,rfl,hk,h,r⟩;have P1:=h;have K1:=hk;have z1:=hk.size;have R1:=r;go_wp21;go_loopg[3] n (λk lv wr=>∃left stk,k<=n/\(B7 wr bp gt cap cur s ts stk)/\(Bl bp w wr)/\w.heap.size<=wr.heap.size/\(Rep wr w.heap.size wr.heap.size left lv)/\(Bh s.data.toList ts k left stk=some (t,st')))
 case atStart=>exact⟨a,st1,znL _,P1,K1,z1,R1,H2⟩
 case round=>
  have⟨left,stk,hkn,PR,KR,zr,RR,HR⟩:=hrel;cases gk with
  |zero=>have:=HR;simp[Bh]at this
  |succ k=>
  have HR2:=HR;rw[Bh]at HR2;have⟨tk,htk,hf2⟩:=zbE.1 HR2;have H3:=htk;cases hba:Ap tk.sort
  ·rw[hba]at hf2;simp only[xA,if_false,zsI,zpI]at hf2;obtain⟨rfl,rfl⟩:=hf2;have HB:Ap tk.sort=false:=hba;go_wp21;go_call Cs PR H3 as e w2 ⟨rfl,hg⟩;have X:Bl bp w w2/\B7 w2 bp gt cap cur s ts stk/\Rep w2 w.heap.size w2.heap.size left u3:=⟨KR.trans (Bl.Ax hg),PR.kept hg,RR.grown hg (znL _) hg.size⟩;go_wp21;go_call Dr _ _ as e w3 ⟨rfl,rfl⟩;rw[HB];go_wp21;go_ret;exact⟨_,rfl,X⟩
  ·rw[hba]at hf2;simp only[if_true]at hf2;have⟨⟨b,st3⟩,hb,hf3⟩:=zbE.1 hf2;simp only at hf3;have H4:=hb;have H5:Bh s.data.toList ts k (.call left.fr b.to left b) st3=some (t,st'):=hf3;have HB:=hba;go_wp21;go_call Cs PR H3 as e w2 ⟨rfl,hg⟩;have P2:=PR.kept hg;have K2:=KR.trans (Bl.Ax hg);have R2:=RR.grown hg (znL _) hg.size;have z2:=hg.size;go_wp21;go_call Dr _ _ as e w3 ⟨rfl,rfl⟩;rw[HB];go_wp21;go_call hA k oM P2 H4 as e w4 ⟨v2,rfl,hk,h,r⟩;have P4:=h;have K4:=K2.trans hk;have z4:=hk.size;have R4:=R2.Aq hk hbp (znL _) oM;have R4b:Rep w4 w.heap.size w4.heap.size b v2:=r.wide oM (znL _);have⟨b1,_,hb1,hv1,c0,c1⟩:=R4.node;have hp:=W8 left b1 w4 left.fr left.to c0 c1;have⟨b2,_,_,hv2,_,_⟩:=R4b.node;generalize Td left=T1 at hv1 hp;generalize Td b=T2 at hv2;rw[hv1]at R4;rw[hv2]at R4b;have R4':=R4;have R4b':Rep w4 w.heap.size w4.heap.size b (.iface T2 (pT b2)):=R4b;subst hv1 hv2;go_wp21;go_call W9 _ _ _ as e w5 ⟨rfl,hg⟩;have G5:=hg;go_wp21;go_call Lo _ _ (R4b'.grown G5 (znL _) (znL _)) as e w6 ⟨rfl,hg⟩;have G6:=Ab G5 hg;have z6:=(Ab G5 hg).size;go_wp21;go_roundg k
   case measure=>omega
   case rel=>
    go_light;refine⟨_,_,oM,(P4.kept G6).alloc _,(K4.trans (Bl.Ax G6)).alloc _,by simp;omega,?_,H5⟩;exact⟨_,_,⟨w6.heap.size,oM,sM,rfl,Ac w6 _⟩,R4'.grown (Aj G6 _) (znL _) (by simp;omega),R4b'.grown (Aj G6 _) (znL _) (by simp;omega)⟩
section
variable{n bp gt cap:Nat}{w:World}{cur:Array Value}{s:ByteArray}{ts:List Tw.Tok}{st:Tw.PS}
theorem zds(hE:Db 81 Cg n)
  (h:B7 w bp gt cap cur s ts st) {bfr:Nat} {st1 st2 st3 st4 st5 st6:PS} {x y:Tw.T} {c:Int} {r:Tw.Tok} (hb:Fg ts 16 st=some (bfr,st1)) (hx:Cg s.data.toList ts n st1=some (x,st2)) (hc:Bn ts [18] st2=some (c,st3)) (bc:(c==18)=true)
  (hy:Cg s.data.toList ts n st3=some (y,st4)) (hr:Tw.Bg ts 17 st4=some (r,st5)) (he:Tw.endS st5=some st6) :
  Calls prog 237 #[pT bp] w (Mi w bp gt cap cur s ts (.pair bfr r.to x y) st6):=by
 have HH:=h;have H1:=hb;have H2:=hx;have H3:=hc;have H4:=hy;have H5:=hr;have H6:=he;have hbp:=h.Js;have fd:=zdj;clear h hb hx hc hy hr he;go_enter_defers func237,ntmps237;go_wp21;refine(Pr HH _ H1).mono ?_;rintro e w1 ⟨rfl,hk,h⟩;have P1:=h;have K1:=hk;have z1:=hk.size;clear hk h;go_wp21;refine(hE P1 H2).mono ?_;rintro e w2 ⟨v,rfl,hk,h,r⟩;have P2:=h;have K2:=K1.trans hk;have⟨b1,_,_,hv,_,_⟩:=r.node;generalize Td x=T1 at hv;subst hv;have R2:=r;clear hk h r P1 K1;go_wp21;refine(zbe P2 18 H3).mono ?_;rintro e w3 ⟨rfl,⟨hk,hz⟩,h⟩;have P3:=h;have K3:=K2.trans hk;have R3:=R2.Aq hk oM (znL _) (znL _);clear hk h P2 K2 R2;go_wp21;refine(hE P3 H4).mono ?_;rintro e w4 ⟨v,rfl,hk,h,r4⟩;have P4:=h;have K4:=K3.trans hk;have z4:=hk.size;have R4x:=R3.Aq hk oM (znL _) (znL _);have⟨b2,_,_,hv,_,_⟩:=r4.node;generalize Td y=T2 at hv;subst hv;have R4:=r4;clear hk h r4 P3 K3 R3;go_wp21;refine(Dq P4 _ H5).mono ?_;rintro e w5 ⟨rfl,hk,h⟩;have P5:=h;have K5:=K4.trans hk;have z5:=hk.size;have R5x:=R4x.Aq hk oM (znL _) (znL _);have R5:=R4.Aq hk oM (znL _) (znL _);clear hk h P4 K4 R4 R4x;go_wp21;refine leaves_cons (f:=202) (args:=#[pT bp]) sM (by simp[go_sem]) ?_;refine(Jt ((P5.alloc _).alloc _) .returning H6).mono ?_;rintro e u' w9 ⟨rfl,rfl,hk9,h9⟩;refine⟨_,results_tmp rfl _ _ _,?_⟩;go_light;refine⟨_,rfl,((K5.alloc _).alloc _).trans hk9,h9,?_⟩;have z9:=hk9.size;simp at z9;have G:=Aj (zwA w5 (.cells #[vI bfr,vI r.to] 85) none) (.cells #[vI bfr,vI r.to,.iface T1 (pT b1),.iface T2 (pT b2)] 229);have NW:=Ac (w5.alloc (.cells #[vI bfr,vI r.to] 85)) (.cells #[vI bfr,vI r.to,.iface T1 (pT b1),.iface T2 (pT b2)] 229);rw[show(w5.alloc (.cells #[vI bfr,vI r.to] 85)).heap.size=w5.heap.size+1 from sM]at NW;exact⟨_,_,⟨w5.heap.size+1,oM,oM,rfl,hk9.at NW oM⟩,
  (R5x.grown G (znL _) (znL _)).Aq hk9 oM oM oM,
  (R5.grown G (znL _) (znL _)).Aq hk9 oM oM oM⟩
theorem zfh(hE:Db 81 Cg n)
  (h:B7 w bp gt cap cur s ts st) {bfr:Nat} {st1 st2 st3 st5 st6:PS} {x:Tw.T} {c:Int} {r:Tw.Tok} (hb:Fg ts 16 st=some (bfr,st1)) (hx:Cg s.data.toList ts n st1=some (x,st2)) (hc:Bn ts [18] st2=some (c,st3)) (bc:(c==18)=false)
  (hr:Tw.Bg ts 17 st3=some (r,st5)) (he:Tw.endS st5=some st6) :
  Calls prog 237 #[pT bp] w (Mi w bp gt cap cur s ts (.bracket bfr r.to x) st6):=by
 have HH:=h;have H1:=hb;have H2:=hx;have H3:=hc;have H5:=hr;have H6:=he;have hbp:=h.Js;have fd:=zdj;clear h hb hx hc hr he;go_enter_defers func237,ntmps237;go_wp21;refine(Pr HH _ H1).mono ?_;rintro e w1 ⟨rfl,hk,h⟩;have P1:=h;have K1:=hk;have z1:=hk.size;clear hk h;go_wp21;refine(hE P1 H2).mono ?_;rintro e w2 ⟨v,rfl,hk,h,r⟩;have P2:=h;have K2:=K1.trans hk;have z2:=hk.size;have⟨b1,_,_,hv,_,_⟩:=r.node;generalize Td x=T1 at hv;subst hv;have R2:=r;clear hk h r P1 K1;go_wp21;refine(zbe P2 18 H3).mono ?_;rintro e w3 ⟨rfl,⟨hk,hz⟩,h⟩;have P3:=h;have K3:=K2.trans hk;have R3:=R2.Aq hk oM (znL _) (znL _);clear hk h P2 K2 R2;go_wp21;refine(Dq P3 _ H5).mono ?_;rintro e w5 ⟨rfl,hk,h⟩;have P5:=h;have K5:=K3.trans hk;have z5:=hk.size;have R5x:=R3.Aq hk oM (znL _) (znL _);clear hk h P3 K3 R3;go_wp21;refine leaves_cons (f:=202) (args:=#[pT bp]) sM (by simp[go_sem]) ?_;refine(Jt (P5.alloc _) .returning H6).mono ?_;rintro e u' w9 ⟨rfl,rfl,hk9,h9⟩;refine⟨_,results_tmp rfl _ _ _,?_⟩;go_light;refine⟨_,rfl,(K5.alloc _).trans hk9,h9,?_⟩;have z9:=hk9.size;simp at z9;have G:=zwA w5 (.cells #[vI bfr,vI r.to,.iface T1 (pT b1)] 206) none;exact⟨_,⟨w5.heap.size,oM,oM,rfl,hk9.at (Ac w5 _) oM⟩,
  (R5x.grown G (znL _) (znL _)).Aq hk9 oM oM oM⟩
theorem zdt(k:Db 81 Cg n):Db 237 Cd (n+1):=by
 intro w bp gt cap cur s ts st E z j m;rw[Cd]at m;have⟨⟨y,A⟩,l,o⟩:=zbE.1 m;have⟨⟨F,B⟩,i,p⟩:=zbE.1 o;have⟨⟨c,C⟩,e,a⟩:=zbE.1 p;simp only at i e a;by_cases d:c=18
 ·rw[mA d]at a;have⟨⟨G,D⟩,r,q⟩:=zbE.1 a;have⟨⟨t,v⟩,h,g⟩:=zbE.1 q;have⟨x,f,b⟩:=zbE.1 g;simp[Option.some.injEq,Prod.mk.injEq]at b;obtain⟨rfl,rfl⟩:=b;exact zds k j l i e (by simp[d]) r h f
 ·rw[jA d]at a;have⟨⟨t,v⟩,h,g⟩:=zbE.1 a;have⟨x,f,b⟩:=zbE.1 g;simp[Option.some.injEq,Prod.mk.injEq]at b;obtain⟨rfl,rfl⟩:=b;exact zfh k j l i e (by simp[d]) h f
end
end
end Go.Proofs.YtckhafpejefbbaaGreatDoor
