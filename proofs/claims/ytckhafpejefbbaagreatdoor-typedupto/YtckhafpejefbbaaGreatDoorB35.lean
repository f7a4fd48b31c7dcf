import Derived.Test.YtckhafpejefbbaaGreatDoorB34

set_option maxRecDepth 100000
set_option maxHeartbeats 16000000
namespace Go.Proofs.YtckhafpejefbbaaGreatDoor
section
open Tw Tw.Rf Go.Proofs.Tryz
open Go.RowKit
section
variable {B Bq bq bs bt:Nat}{l:List Tw.Rf.RC}{bad:Bool}{env:List Bnd}{lv ev sv:Value}
theorem zkc (hsv:∀g,sv.ownBlock=some g->g<Bq) {k p:Nat} {c:RC} {a b ty:Ty} {pr:Bool} (hty:ty=if pr then .pair a b else .fn a b) (he:Rf.End l k p) (hp:l[p]? = some c) (hs:c.sort=if pr then 42 else 62) (hA:ShC B Bq bq bs bt l bad env lv ev sv c.a a) (hB:ShC B Bq bq bs bt l bad env lv ev sv c.b b):ShC B Bq bq bs bt l bad env lv ev sv k ty:=by
  intro wh w st nv hwh h hS hf hl
  obtain⟨b0,b1,b2⟩:=h.cells
  obtain⟨n,hn⟩:=he.run
  have cT:prog.cellsOf 281=4:=kR
  have hfw:=hS.few
  obtain⟨nm,out⟩:=st
  dsimp only at *
  have H:=bV h
  have HS:=bV hS
  have HN:=bV hn
  have HP:=bV hp
  have HF:=bV hf
  have HA:=bV hA
  have HB:=bV hB
  have HSV:=bV hsv
  have HSS:=bV hs
  have HTY:=bV hty
  clear h hS hn hp he hf hA hB hsv hs hty
  by_cases hlong:400<out.length
  · have hli:(400:Int)<(out.length:Int):=oM
    go_in
    go_wp2_with fail
    refine bodyPost_ret (results_none rfl _ _ _) rfl ?_
    refine⟨rfl,TK.refl _ _ _,nv,?_⟩
    rw[Cj,mA hlong]
    exact H.o
  have hli:¬(400:Int)<(out.length:Int):=oM
  have hl1:out.length<=400:=oM
  have hl2:out.toArray.size<=400:=by simpa using hl1
  go_in
  go_wp2_with fail
  refine(Rc HS.o HN.o).mono ?_
  rintro e1 w1 ⟨rfl,hg⟩
  have S1:=bV (HS.o.grown hg)
  have H1:=bV (H.o.grown hg)
  have K1:=bV (TK.of_grown Bq RhS hg)
  clear hg H HS b0 b1 b2
  obtain⟨b0,b1,b2⟩:=H1.o.cells
  obtain⟨_,c1,_,_,_⟩:=S1.o.cells
  obtain⟨g,capl,rfl,d0,d1,d2,d3,_⟩:=S1.o.type HP.o
  have hpl:(p:Int)<(l.length:Int):=by have:=(zlE.1 HP.o).1;omega
  obtain⟨so,hso⟩:∃so:Int,(c.sort:Int)=so:=⟨_,rfl⟩
  rw[hso]at d0
  have HSO:Hid (so=if pr then 42 else 62):=bV (by rw[<-hso,HSS.o];cases pr<;>rfl)
  clear hso HSS
  go_upto_region 3 with fail
  have g2:=zwA w1 (.cells #[vU so,vI c.a,vI c.b,vI c.foI] 281) none
  have n2:=Ac w1 (.cells #[vU so,vI c.a,vI c.b,vI c.foI] 281)
  obtain⟨w2,hw2⟩:∃w2,w1.alloc (.cells #[vU so,vI c.a,vI c.b,vI c.foI] 281)=w2:=⟨_,rfl⟩
  obtain⟨nb,hnb⟩:∃nb,w1.heap.size=nb:=⟨_,rfl⟩
  rw[hw2]at g2 n2
  rw[hnb]at n2
  rw[hw2,hnb]
  have H2:=bV (H1.o.grown g2)
  have K2:=bV (K1.o.trans (TK.of_grown Bq RhS g2))
  have m0:w2.cell? (aD nb 0)=some (vU so):=zcR n2
  have N2:=bV n2
  have S2:=bV (S1.o.grown g2)
  clear g2 n2 hw2 hnb b0 b1 b2 c1 d0 d1 d2 d3 S1 H1 K1
  obtain⟨b0,b1,b2⟩:=H2.o.cells
  have f1:w2.frozen? (aD bq 1)=false:=eB _ _ _ _ _ H2.o.cell
  -- brackets,or none:the tree,the bytes ahead of it
  obtain⟨br,hbr⟩:∃br,rbr ty wh=br:=⟨_,rfl⟩
  have hbw:(pr=false/\br=true/\(0:Int)<(wh:Int))\/(pr=false/\br=false/\¬(0:Int)<(wh:Int))\/(pr=true/\br=true/\((wh:Int)==2)=true)\/(pr=true/\br=false/\((wh:Int)==2)=false):=by
    rw[<-hbr,HTY.o]
    cases pr
    · rcases Nat.eq_zero_or_pos wh with h | h
      · exact .inr (.inl ⟨rfl,by simp [rbr,Ty.tsort,h],oM⟩)
      · exact .inl ⟨rfl,by simp [rbr,Ty.tsort,h],oM⟩
    · by_cases h:wh=2
      · exact .inr (.inr (.inl ⟨rfl,by simp [rbr,Ty.tsort,h],by simp [h]⟩))
      · exact .inr (.inr (.inr ⟨rfl,by simp [rbr,Ty.tsort,h],by simp; omega⟩))
  have HBR:=bV hbr
  clear hbr
  -- the walk as far as the part on the left
  obtain⟨X,KX⟩:=H2.o.setOut (Iz out [40])
  have X:=bV X
  have KX:=bV KX
  rcases hbw with⟨rfl,rfl,hw⟩|⟨rfl,rfl,hw⟩|⟨rfl,rfl,hw⟩|⟨rfl,rfl,hw⟩
  case' inl=>
    obtain rfl:so=62:=HSO.o
    go_upto_region 6 with fail
    obtain⟨wz,hwz⟩:∃wz,w2.setCell (aD bq 1) (Value.string ({data:=out.toArray} ++ {data:=#[40]}))=wz:=⟨_,rfl⟩
    have X':SH (w2.setCell (aD bq 1) (Value.string ({data:=out.toArray} ++ {data:=#[40]}))) Bq bq bs (nm,out++[40]) nv:=X.o
    have KX':TK Bq RhS w2 (w2.setCell (aD bq 1) (Value.string ({data:=out.toArray} ++ {data:=#[40]}))):=KX.o
    rw[hwz]at X' KX'
    rw[hwz]
    have ZZ:∃ol:List UInt8,Hid (SH wz Bq bq bs (nm,ol) nv)/\Hid (TK Bq RhS w2 wz)/\Hid (ol.length<=401/\out.length<=ol.length)/\Hid (Cj (rbr ty wh) (rin ty) (nm,out)=app (rin ty (nm,ol)) [41]):=⟨out++[40],bV X',bV KX',bV ⟨by simp;omega,sM⟩,bV (by rw[HBR.o,Cj,jA hlong];rfl)⟩
    have MB:=trivial
    clear hwz X' KX' X KX
    have MF:=trivial
  case' inr.inl=>
    obtain rfl:so=62:=HSO.o
    go_upto_region 6 with fail
    obtain⟨wz,rfl⟩:∃wz,wz=w2:=⟨_,rfl⟩
    have ZZ:∃ol:List UInt8,Hid (SH wz Bq bq bs (nm,ol) nv)/\Hid (TK Bq RhS wz wz)/\Hid (ol.length<=401/\out.length<=ol.length)/\Hid (Cj (rbr ty wh) (rin ty) (nm,out)=rin ty (nm,ol)):=⟨out,H2,bV (TK.refl _ _ _),bV ⟨oM,znL _⟩,bV (by rw[HBR.o,Cj,jA hlong];rfl)⟩
    clear X KX
    have MF:=trivial
  case' inr.inr.inl=>
    obtain rfl:so=42:=HSO.o
    go_upto_region 6 with fail
    obtain⟨wz,hwz⟩:∃wz,w2.setCell (aD bq 1) (Value.string ({data:=out.toArray} ++ {data:=#[40]}))=wz:=⟨_,rfl⟩
    have X':SH (w2.setCell (aD bq 1) (Value.string ({data:=out.toArray} ++ {data:=#[40]}))) Bq bq bs (nm,out++[40]) nv:=X.o
    have KX':TK Bq RhS w2 (w2.setCell (aD bq 1) (Value.string ({data:=out.toArray} ++ {data:=#[40]}))):=KX.o
    rw[hwz]at X' KX'
    rw[hwz]
    have ZZ:∃ol:List UInt8,Hid (SH wz Bq bq bs (nm,ol) nv)/\Hid (TK Bq RhS w2 wz)/\Hid (ol.length<=401/\out.length<=ol.length)/\Hid (Cj (rbr ty wh) (rin ty) (nm,out)=app (rin ty (nm,ol)) [41]):=⟨out++[40],bV X',bV KX',bV ⟨by simp;omega,sM⟩,bV (by rw[HBR.o,Cj,jA hlong];rfl)⟩
    have MB:=trivial
    clear hwz X' KX' X KX
  case' inr.inr.inr=>
    obtain rfl:so=42:=HSO.o
    go_upto_region 6 with fail
    obtain⟨wz,rfl⟩:∃wz,wz=w2:=⟨_,rfl⟩
    have ZZ:∃ol:List UInt8,Hid (SH wz Bq bq bs (nm,ol) nv)/\Hid (TK Bq RhS wz wz)/\Hid (ol.length<=401/\out.length<=ol.length)/\Hid (Cj (rbr ty wh) (rin ty) (nm,out)=rin ty (nm,ol)):=⟨out,H2,bV (TK.refl _ _ _),bV ⟨oM,znL _⟩,bV (by rw[HBR.o,Cj,jA hlong];rfl)⟩
    clear X KX
  all_goals
    obtain⟨ol,HZ,KZ,LZ,HQ⟩:=ZZ
    have SZ:=bV (S2.o.sh HSV.o KZ.o)
    have NZ:=KZ.o.cells N2.o dZ
    have KZ:=bV (K2.o.trans KZ.o)
    have q0:wz.cell? (aD nb 0)=some (vU _):=(mB _ _ _ _ _ _ NZ)
    have q1:wz.cell? (aD nb 1)=some (vI c.a):=zcR NZ
    have NZ:=bV NZ
    have FZ:Hid (Few (nm,ol)):=bV (by have h1:=HF.o;have h2:=LZ.o;unfold Few at h1 ⊢;dsimp only at *;omega)
    clear H2 S2 N2 K2 b0 b1 b2 f1 m0
    clear hw
    go_wp2_with fail
    first
      | (have _:=MF
         refine (HA.o 1 _ _ _ oM HZ.o SZ.o FZ.o (by have:=LZ.o; dsimp only; omega)).mono ?_
         have E1:Hid (rin ty (nm,ol)=Cj (rbr b 0) (rin b) (app (Cj (rbr a 1) (rin a) (nm,ol)) [32,45,62,32])):=bV (by rw [HTY.o]; rfl))
      | (refine (HA.o 2 _ _ _ oM HZ.o SZ.o FZ.o (by have:=LZ.o; dsimp only; omega)).mono ?_
         have E1:Hid (rin ty (nm,ol)=Cj (rbr b 2) (rin b) (app (Cj (rbr a 2) (rin a) (nm,ol)) [32,42,32])):=bV (by rw [HTY.o]; rfl))
    rintro e3 w3 ⟨rfl,hk3,nv3,hs3⟩
    have S3:=bV (SZ.o.sh HSV.o hk3)
    have N3:=bV (hk3.cells NZ.o dZ)
    have K3:=bV (KZ.o.trans hk3)
    have L1:∀br,Few (Cj br (rin a) (nm,ol))/\(Cj br (rin a) (nm,ol)).2.length<=5260:=λbr=>by
      obtain⟨h1,h2,h3⟩:=Im (Lg a) br FZ.o
      refine⟨h1,?_⟩
      have h4:=LZ.o.1
      rcases yB 400 ol.length with h|h
      · rw [h2 h]; dsimp only; omega
      · have:=h3 h; dsimp only at this; omega
    clear hk3 HZ SZ NZ KZ q0 q1
    first
      | (have _:=MF
         obtain ⟨st1,hst1⟩:∃st1,Cj (rbr a 1) (rin a) (nm,ol)=st1:=⟨_,rfl⟩
         have L2:=L1 (rbr a 1)
         rw [hst1] at hs3 E1 L2
         obtain ⟨nm1,out1⟩:=st1
         have lo1:out1.length<=5260:=L2.2
         have lo2:out1.toArray.size<=5260:=by simpa using lo1
         have FW:=bV L2.1
         obtain ⟨b0,b1,b2⟩:=hs3.cells
         have f1:w3.frozen? (aD bq 1)=false:=eB _ _ _ _ _ hs3.cell
         obtain ⟨X,KX⟩:=hs3.setOut (Iz out1 [32,45,62,32])
         have X:=bV X
         have KX:=bV KX
         clear hs3 hst1 L1 L2
         go_upto_region 21 with fail
         obtain ⟨w4,hw4⟩:∃w4,w3.setCell (aD bq 1) (Value.string ({data:=out1.toArray} ++ {data:=#[32,45,62,32]}))=w4:=⟨_,rfl⟩
         have X':SH (w3.setCell (aD bq 1) (Value.string ({data:=out1.toArray} ++ {data:=#[32,45,62,32]}))) Bq bq bs (nm1,out1 ++ [32,45,62,32]) nv3:=X.o
         have KX':TK Bq RhS w3 (w3.setCell (aD bq 1) (Value.string ({data:=out1.toArray} ++ {data:=#[32,45,62,32]}))):=KX.o
         rw [hw4] at X' KX'
         rw [hw4]
         have S4:=bV (S3.o.sh HSV.o KX')
         have N4:=KX'.cells N3.o dZ
         have q2:w4.cell? (aD nb 2)=some (vI c.b):=zcR N4
         have K4:=bV (K3.o.trans KX')
         have X4:=bV X'
         have FW4:Hid (Few (nm1,out1 ++ [32,45,62,32])):=bV (by have h1:=FW.o; unfold Few at h1 ⊢; simp at h1 ⊢; omega)
         clear X KX X' KX' hw4 N4 S3 K3 N3 b0 b1 b2 f1
         go_wp2_with fail
         refine (HB.o 0 _ _ _ oM X4.o S4.o FW4.o (by simp; omega)).mono ?_
         rintro e5 w5 ⟨rfl,hk5,nv5,hs5⟩
         have L5:(Cj (rbr b 0) (rin b) (nm1,out1 ++ [32,45,62,32])).2.length<=5270:=by
           obtain ⟨h1,h2,h3⟩:=Im (Lg b) (rbr b 0) FW4.o
           rcases yB 400 (nm1,out1 ++ [32,45,62,32]).2.length with h | h
           · rw [h2 h]; simp; omega
           · have:=h3 h; omega
         have E5:Hid (rin ty (nm,ol)=Cj (rbr b 0) (rin b) (nm1,out1 ++ [32,45,62,32])):=E1
         obtain ⟨st5,hst5⟩:∃st5,Cj (rbr b 0) (rin b) (nm1,out1 ++ [32,45,62,32])=st5:=⟨_,rfl⟩
         rw [hst5] at hs5 L5 E5)
      | (obtain ⟨st1,hst1⟩:∃st1,Cj (rbr a 2) (rin a) (nm,ol)=st1:=⟨_,rfl⟩
         have L2:=L1 (rbr a 2)
         rw [hst1] at hs3 E1 L2
         obtain ⟨nm1,out1⟩:=st1
         have lo1:out1.length<=5260:=L2.2
         have lo2:out1.toArray.size<=5260:=by simpa using lo1
         have FW:=bV L2.1
         obtain ⟨b0,b1,b2⟩:=hs3.cells
         have f1:w3.frozen? (aD bq 1)=false:=eB _ _ _ _ _ hs3.cell
         obtain ⟨X,KX⟩:=hs3.setOut (Iz out1 [32,42,32])
         have X:=bV X
         have KX:=bV KX
         clear hs3 hst1 L1 L2
         go_upto_region 25 with fail
         obtain ⟨w4,hw4⟩:∃w4,w3.setCell (aD bq 1) (Value.string ({data:=out1.toArray} ++ {data:=#[32,42,32]}))=w4:=⟨_,rfl⟩
         have X':SH (w3.setCell (aD bq 1) (Value.string ({data:=out1.toArray} ++ {data:=#[32,42,32]}))) Bq bq bs (nm1,out1 ++ [32,42,32]) nv3:=X.o
         have KX':TK Bq RhS w3 (w3.setCell (aD bq 1) (Value.string ({data:=out1.toArray} ++ {data:=#[32,42,32]}))):=KX.o
         rw [hw4] at X' KX'
         rw [hw4]
         have S4:=bV (S3.o.sh HSV.o KX')
         have N4:=KX'.cells N3.o dZ
         have q2:w4.cell? (aD nb 2)=some (vI c.b):=zcR N4
         have K4:=bV (K3.o.trans KX')
         have X4:=bV X'
         have FW4:Hid (Few (nm1,out1 ++ [32,42,32])):=bV (by have h1:=FW.o; unfold Few at h1 ⊢; simp at h1 ⊢; omega)
         clear X KX X' KX' hw4 N4 S3 K3 N3 b0 b1 b2 f1
         go_wp2_with fail
         refine (HB.o 2 _ _ _ oM X4.o S4.o FW4.o (by simp; omega)).mono ?_
         rintro e5 w5 ⟨rfl,hk5,nv5,hs5⟩
         have L5:(Cj (rbr b 2) (rin b) (nm1,out1 ++ [32,42,32])).2.length<=5270:=by
           obtain ⟨h1,h2,h3⟩:=Im (Lg b) (rbr b 2) FW4.o
           rcases yB 400 (nm1,out1 ++ [32,42,32]).2.length with h | h
           · rw [h2 h]; simp; omega
           · have:=h3 h; omega
         have E5:Hid (rin ty (nm,ol)=Cj (rbr b 2) (rin b) (nm1,out1 ++ [32,42,32])):=E1
         obtain ⟨st5,hst5⟩:∃st5,Cj (rbr b 2) (rin b) (nm1,out1 ++ [32,42,32])=st5:=⟨_,rfl⟩
         rw [hst5] at hs5 L5 E5)
    obtain⟨nm5,out5⟩:=st5
    have lo5:out5.length<=5270:=L5
    have lo6:out5.toArray.size<=5270:=by simpa using lo5
    have K5:=bV (K4.o.trans hk5)
    have H5:=bV hs5
    obtain⟨y0,y1,y2⟩:=hs5.cells
    have y3:w5.frozen? (aD bq 1)=false:=eB _ _ _ _ _ hs5.cell
    clear hk5 hs5 L5 hst5 q2 X4 S4 K4
    first
      | (have _:=MB
         obtain ⟨X,KX⟩:=H5.o.setOut (Iz out5 [41])
         have X:=bV X
         have KX:=bV (K5.o.trans KX)
         go_wp2_with fail
         go_end0
         refine ⟨rfl,KX.o,?_⟩
         rw [HQ.o,E5.o]
         exact ⟨_,X.o⟩)
      | (go_wp2_with fail
         go_end0
         refine ⟨rfl,K5.o,?_⟩
         rw [HQ.o,E5.o]
         exact ⟨_,H5.o⟩)
end
end
section
open Tw Tw.Rf Go.Proofs.Tryz
open Go.RowKit
variable{w:World}{B bt:Nat}
theorem RowV.lower{b:Nat}{e:TypeId}{v:Value}{c:List Value}(h:RowV w B e v c)(k:b<=B):RowV w b e v c:=by
 refine⟨h.1,?_⟩;rcases h.2 with a|⟨i,f,g,a,j,d⟩
 ·exact .inl a
 ·exact .inr ⟨i,f,g,a,oM,d⟩
theorem znd{Bq bq bs:Nat}{l:List RC}{bad:Bool}{env:List Bnd}{lv ev sv:Value}(b:∀g,sv.ownBlock=some g->g<Bq){k:Nat}{a:Ty}(h:Rf.Fin l k a):ShC B Bq bq bs bt l bad env lv ev sv k a:=by
 induction h with
 |var he hx hs=>exact zaf he hx (.inr (.inr ⟨hs,rfl⟩))
 |int he hx hs=>exact zaf he hx (.inl ⟨hs,rfl⟩)
 |bool he hx hs=>exact zaf he hx (.inr (.inl ⟨hs,rfl⟩))
 |fn he hx hs _ _ ih1 ih2=>exact zkc b (pr:=false) rfl he hx hs ih1 ih2
 |pair he hx hs _ _ ih1 ih2=>exact zkc b (pr:=true) rfl he hx hs ih1 ih2
def zng(w:World)(t:Tw.T)(e:Ending)(b:World):Prop:=w.grownBy b none/\((e=.returned (.tuple #[ug [],.bool false])/\∀a,¬Typ t .nil a)\/∃a,Most t a/\e=.returned (.tuple #[ug a.shown,.bool true]))
theorem Yx{s:ByteArray}{t:Tw.T}(hT:RTree w bt s t)(hf:t.freeS []=none){wt:Nat}(hw:Ae t .nil=some wt)(hwt:wt<=2000):Calls prog 43 #[pT bt] w (zng w t):=by
 obtain⟨body,tv,nv,hL,hR,hG⟩:=hT;obtain⟨n0,r,S,q1,q2,q3,q4⟩:=zeh hf;obtain⟨n1,r',S',p1,p2⟩:=zhz hf hw hwt;obtain⟨rfl,rfl⟩:r'=r/\S'=S:=by
  have h1:=q1 (n0+n1) oM;rw[p1 (n0+n1) oM]at h1;cases h1;exact⟨rfl,rfl⟩
 have hrun:=q1 (n0+n1) oM;have hsz:Rf.T.sz t<=5000:=by have:=hR.few;rwa[Af]at this
 obtain⟨_,_,_,t3,_⟩:=hR.cells;have g1:=zwA w (.cells #[pT bt,zN,.bool false,zN,zN] 155) none;have n1':=Ac w (.cells #[pT bt,zN,.bool false,zN,zN] 155);have R1:=hR.grown g1;have OA:=Gt (B:=w.heap.size) (Br:=0) (bs:=w.heap.size) (bt:=bt) (s:=s) (body:=body) (tv:=tv) (nv:=nv) (root:=((Rf.T.sz t-1:Nat):Int)) (er:=-1) (f:=ixF body) (g:=ixT body) (N:=fill (ixF body) (ixT body) t 0 []) (n0+n1) t 0 [] .nil [] ⟨[],false⟩ r' S' hf (znc hG) (λi x hi=>by rw[Nat.zero_add];exact hi) .nil (λb hb=>by cases hb) (by simp;omega) hrun oM;rw[Nat.zero_add]at OA;have HQ4:=bV q4;have HQ3:=bV q3
 go_in;go_upto_region 2 with fail;obtain⟨w1,hw1⟩:∃w1,w.alloc (.cells #[pT bt,zN,.bool false,zN,zN] 155)=w1:=⟨_,rfl⟩;obtain⟨B,hB⟩:∃B,w.heap.size=B:=⟨_,rfl⟩;rw[hw1]at g1 n1' R1;rw[hB]at n1' OA;rw[hw1,hB];have S1:Hid (ST w1 B B bt [] false [] zN zN zN):=bV ⟨n1',mD _ _ _ _,mD _ _ _ _,⟨[],mD _ _ _ _⟩,znL _,sM⟩;have OC1:=bV (OA w1 _ _ _ (by simp[Kx];omega) R1 S1.o);have G1:=bV g1;obtain⟨_,_,_,t3',_⟩:=R1.cells;have HB:=bV hB;have hl4:S'.l.length<=4008000:=p2;clear hw1 g1 n1' OA q1 q2 q3 q4 p1 p2 hrun R1 hR t3 hB S1;go_wp2_with fail;refine OC1.o.mono ?_;rintro e2 w2 ⟨rfl,hk2,lv2,ev2,sv2,hv2,hs2⟩;have G2:Hid (w.grownBy w2 none):=bV ⟨hk2.os.trans G1.o.os,hk2.tape.trans G1.o.tape,hk2.output.trans G1.o.output,kB G1.o.size hk2.size,λk hk _=>(hk2.low (by rw[<-HB.o];exact hk) (aB hk G1.o.size)).trans (G1.o.block k hk sM)⟩;have S2:=bV hs2;obtain⟨_,_,a2,_,_⟩:=hs2.cells;have hv2':Kx sv2<=Rf.T.sz t:=by simpa[Kx]using hv2
 clear hk2 hs2 OC1 G1 hv2;cases hbad:S'.bad with
 |true=>
  rw[hbad]at a2;have HX:Hid (∀a,¬Typ t .nil a):=by
   rcases HQ4.o with⟨_,h⟩|⟨h,_⟩
   ·exact bV h
   ·rw[hbad]at h;cases h
  go_wp2_with fail
  go_ret2;exact⟨G2.o,.inl ⟨rfl,HX.o⟩⟩
 |false=>
  rw[hbad]at a2 S2;obtain⟨b,hb1,hb2⟩:∃b,(∀n,n0<=n->Jr n S'.l S'.l.length 0 (List.replicate S'.l.length 0)=some b)/\((b=true/\∀a,¬Typ t .nil a)\/(b=false/\∃a,Rf.Fin S'.l r' a/\Most t a)):=by
   rcases HQ4.o with⟨h,_⟩|⟨_,h⟩
   ·rw[hbad]at h;cases h
   ·exact h
  have HB1:=bV (hb1 n0 (znL _));have HB2:=bV hb2;clear hb1 hb2 HQ4;have hii:(prog.info? 3).map (λi=>(i.zero,i.size,i.bytes))=some (some (vI 0),1,8):=kR;obtain⟨i0,hi,hz0,hz1,hz2⟩:=info_parts hii;obtain⟨sn,p,c,rfl,hsn⟩:=S2.o.sform;have ga:=zwA w2 (.cells #[vI r'] 3) none;have SA:=bV (S2.o.grown ga);have OA:=bV (A6 hsn ga);have KA:=bV (TK.of_grown B OfS ga);have HBB:Hid (B<=(w2.alloc (.cells #[vI r'] 3)).heap.size):=bV (by have h1:=SA.o.low;have h2:=(zgE.1 SA.o.store).1;omega);have hv3:sn.length<=Rf.T.sz t:=hv2';have hmx:sn.length+1<=maxLen:=by unfold maxLen;omega
  obtain⟨_,_,_,_,cs⟩:=S2.o.cells;clear ga hsn hv2' hii;go_upto_region 6 with(at_builtin;refine wpList_append_lies _ rfl _ _ 33 rfl B 3 i0 (vI 0) 1 8 underlying33 hi hz0 hz1 hz2 rfl dZ (.slice p sn.length c) sn.length (sn.map λf:Nat=>vI f) rfl OA.o (aD w2.heap.size 0) 1 1 [vI r'] rfl rfl (H9 _ _ _) (by intro u hu;simp at hu;subst hu;rfl) dZ hmx oM HBB.o _ rfl ?_;intro g5 cap5 w5 hown5 hgrow5 _ _;obtain⟨cz,fz,X5,K5⟩:=SA.o.push OA.o hown5 hgrow5;have X5:=bV X5;have K5:=bV (KA.o.trans K5);clear hown5 hgrow5);have G5:w.grownBy (w5.setCell (aD B 4) (sL g5 (sn.length+1) cap5)) none:=⟨K5.o.os.trans G2.o.os,K5.o.tape.trans G2.o.tape,K5.o.output.trans G2.o.output,kB G2.o.size K5.o.size,λk hk _=>(K5.o.low (by rw[<-HB.o];exact hk) (aB hk G2.o.size)).trans (G2.o.block k hk sM)⟩;obtain⟨w6,hw6⟩:∃w6,w5.setCell (aD B 4) (sL g5 (sn.length+1) cap5)=w6:=⟨_,rfl⟩;rw[hw6]at X5 G5;rw[hw6];have G6:=bV G5;clear hw6 cz fz K5 SA OA KA HBB S2 G2 cs a2 G5;obtain⟨l,bad⟩:=S';obtain rfl:bad=false:=hbad;dsimp only at *;have hfew:l.length<=5000000:=oM;obtain⟨_,b1,_,_,_⟩:=X5.o.cells;obtain⟨pl,cl,rfl⟩:=X5.o.slice;obtain⟨MD,hMD,hmd⟩:=Ww 33 3 (vI 0) l.length 8 underlying33 kR oM rfl hfew;have HMD:=bV hMD;clear hMD;go_upto_region 7 with fail;have g7:=zwA w6 (.cells MD 3) none;have r7:=RowV.made (W:=w6) (e:=3) hfew HMD.o;obtain⟨w7,hw7⟩:∃w7,w6.alloc (.cells MD 3)=w7:=⟨_,rfl⟩;obtain⟨cb,hcb⟩:∃cb,w6.heap.size=cb:=⟨_,rfl⟩;rw[hw7]at g7 r7;rw[hcb]at r7;rw[hw7,hcb];have hsv:∀g,(sL cb l.length l.length).ownBlock=some g->(sL g5 (sn.length+1) cap5).ownBlock≠some g:=λg hg e=>by
   have e1:cb=g:=(by simpa[Value.ownBlock]using hg);obtain⟨_,hs⟩:=X5.o.seen;have h1:=(hs.lt _ e).2;omega
  have hg5:g5<cb:=by
   obtain⟨_,hs⟩:=X5.o.seen;have h1:=(hs.lt g5 rfl).2;omega
  have HSV:=bV hsv;have hBc:w.heap.size<=cb:=by rw[<-hcb];exact G6.o.size
  have S7:=bV (X5.o.grown g7);have R7:Hid (RowV w7 cb 3 (sL cb l.length l.length) ((List.replicate l.length (0:Int)).map intV)):=by rw[List.map_replicate];exact bV r7
  have G7:=bV (Ab G6.o g7);clear g7 r7 hw7 hcb b1 X5 G6 hmd hsv;go_wp2_with fail;go_loopg[7] l.length (λm iv wr=>∃(i:Nat) (st:List Int),iv=vI i/\i+m=l.length/\Hid (ST wr B B bt l false [] (.slice pl l.length cl) ev2 (sL g5 (sn.length+1) cap5))/\Hid (RowV wr cb 3 (sL cb l.length l.length) (st.map intV))/\Hid (w.grownBy wr none)/\Hid (Jr n0 l m i st=some b))
  case atStart=>exact⟨0,List.replicate l.length 0,rfl,oM,S7,R7,G7,HB1⟩
  case round=>
   obtain⟨i,st,rfl,him,SX,RX,GX,FX⟩:=hrel;obtain⟨_,b1,_,_,_⟩:=SX.o.cells;cases gk with
   |succ m=>
    have hf:=FX.o;rw[Jr]at hf;obtain⟨q,hq,hf⟩:=zbE.1 hf;have HF:=bV hf;have RC:=bV (zj8 HSV.o n0 i st q hq wr SX.o RX.o);have hil:(i:Int)<(l.length:Int):=oM;clear hf hq FX;go_wp2_with fail;refine RC.o.mono ?_;rintro e8 w8 ⟨rfl,hg8,hr8⟩;have S8:=bV (SX.o.beside RX.o ⟨dZ,dZ,dZ⟩ (λ_=>HSV.o) hg8);have R8:=bV hr8;have G8:=bV (zen GX.o (RX.o.lower hBc) hg8);clear hg8 hr8 SX RX GX RC b1;obtain⟨q1,q2⟩:=q;cases q1 with
    |true=>
     have hf:=HF.o;rw[mA rfl]at hf;cases hf;have HX:Hid (∀a,¬Typ t .nil a):=by
      rcases HB2.o with⟨_,h⟩|⟨h,_⟩
      ·exact bV h
      ·cases h
     go_wp2_with fail
     go_ret2;exact⟨G8.o,.inl ⟨rfl,HX.o⟩⟩
    |false=>
     have hf:=HF.o;rw[jA sM]at hf;have HF2:=bV hf;clear hf HF;go_wp2_with fail;go_roundg m
     case measure=>omega
     case rel=>exact⟨i+1,q2,by push_cast;rfl,oM,S8,R8,G8,HF2⟩
   |zero=>
    have hf:=FX.o;rw[Jr]at hf;cases hf;obtain⟨a,hfin,hmost⟩:∃a,Rf.Fin l r' a/\Most t a:=by
     rcases HB2.o with⟨h,_⟩|⟨_,h⟩
     ·cases h
     ·exact h
    have hil:¬(i:Int)<(l.length:Int):=oM;have g9:=zwA wr (.cells #[pT B,ug [],zN] 160) none;have n9:=Ac wr (.cells #[pT B,ug [],zN] 160);have hgz:g5<wr.heap.size:=by
     obtain⟨_,hs⟩:=SX.o.seen;exact(hs.lt g5 rfl).2
    have HM:=bV hmost;go_upto_region 14 with fail;obtain⟨w9,hw9⟩:∃w9,wr.alloc (.cells #[pT B,ug [],zN] 160)=w9:=⟨_,rfl⟩;obtain⟨bq,hbq⟩:∃bq,wr.heap.size=bq:=⟨_,rfl⟩;rw[hw9]at g9 n9;rw[hbq]at n9 hgz;have HG:wr.alloc (.cells #[pT B,.string ⟨#[]⟩,zN] 160)=w9:=hw9;rw[HG,hbq];have SHC:=znd (B:=B) (Bq:=bq) (bq:=bq) (bs:=B) (bt:=bt) (l:=l) (bad:=false) (env:=[]) (lv:=.slice pl l.length cl) (ev:=ev2) (sv:=sL g5 (sn.length+1) cap5) (λg e=>by
     have e1:g5=g:=(by simpa[Value.ownBlock]using e);omega) hfin
    have X9:=bV (SHC 0 w9 ([],[]) zN oM ⟨n9,mD _ _ _ _,znL _⟩ (SX.o.grown g9) (by simp[Few]) sM);have G9:=bV (Ab GX.o g9);have HBQ:=bV hbq;have hwz:=GX.o.size;clear SHC n9 g9 hw9 HG hfin hmost b1 hbq FX;go_wp2_with fail;refine X9.o.mono ?_;rintro e10 w10 ⟨rfl,hk,nv10,hs10⟩;have E0:Cj (rbr a 0) (rin a) ([],[])=rin a ([],[]):=by
     have h0:rbr a 0=false:=(by simp[rbr]);rw[h0];rfl
    have L0:=(Lg a ([],[]) (by simp[Few]) sM).2;have ES:=bV (zhn a);rw[E0]at hs10;obtain⟨⟨nmz,out⟩,hout⟩:∃q,rin a ([],[])=q:=⟨_,rfl⟩;rw[hout]at hs10 L0;have hlo:out.length<=6000:=(by simp at L0;omega);have hlo2:out.toArray.size<=6000:=(by simpa using hlo);obtain⟨-,y1,-⟩:=hs10.cells;dsimp only at y1;have G10:Hid (w.grownBy w10 none):=bV ⟨hk.os.trans G9.o.os,hk.tape.trans G9.o.tape,hk.output.trans G9.o.output,kB G9.o.size hk.size,λk hk' _=>(hk.low (by have:=HBQ.o;omega) (aB hk' G9.o.size)).trans (G9.o.block k hk' sM)⟩;have HOUT:=bV hout;clear hk hs10 E0 L0 hout X9 G9;by_cases hlong:400<out.length
    ·have hli:(400:Int)<(out.length:Int):=oM;have EZ:Hid (a.shown=[46,46,46]):=bV (by
      rw[<-ES.o,zat,HOUT.o];exact mA hlong)
     go_wp2_with fail
     go_ret2;exact⟨G10.o,.inr ⟨a,HM.o,by rw[EZ.o];rfl⟩⟩
    ·have hli:¬(400:Int)<(out.length:Int):=oM;have EZ:Hid (a.shown=out):=bV (by
      rw[<-ES.o,zat,HOUT.o];exact jA hlong)
     go_wp2_with fail
     go_ret2;exact⟨G10.o,.inr ⟨a,HM.o,by rw[EZ.o];rfl⟩⟩
end
section
open Tw Tw.Rf Go.Proofs.Tryz
open Go.RowKit
variable{s:ByteArray}
def znh(w:World)(s:ByteArray)(c:RR)(e:Ending)(b:World):Prop:=w.grownBy b none /\
 match c with
 |.fault k p=>e=.returned (.tuple #[.pointer none,.int .i64 k,.int .i64 p])
 |.fine t _=>∃a,e=.returned (.tuple #[.pointer (some ⟨a,0,none⟩),.int .i64 0,.int .i64 0])/\RTree b a s t/\w.heap.size<=a
theorem RTree.grown{w a:World}{bt:Nat}{t:Tw.T}(h:RTree w bt s t)(f:w.grownBy a none):RTree a bt s t:=by
 obtain⟨b,i,g,c,d,e⟩:=h;exact⟨b,i,g,c,d.grown f,e⟩
theorem Tw.Rf.zag{l:List UInt8}{n:Nat}{i:RR}(h:Ie 6100 n l=some i):∃q,rreadS 6100 l=some q /\
  match i with
  |.fault k p=>q=.error (k,p)\/(k=5/\p=0/\∃t a,q=.ok t/\t.freeS []=none/\Ae t .nil=some a/\a<=2000/\ofS n t=some none)
  |.fine t sh=>∃a,q=.ok t/\t.freeS []=none/\Ae t .nil=some a/\a<=2000/\ofS n t=some (some sh):=by
 unfold Ie at h;unfold rreadS;split at h
 ·rename_i e;cases h;exact⟨_,mA e,.inl rfl⟩
 ·rename_i e;rw[jA e];unfold Qn at h;split at h
  ·rename_i p f;cases h;rw[f];exact⟨_,rfl,.inl rfl⟩
  ·rename_i m f;rw[f];obtain⟨r,j,h⟩:=zbE.1 h;dsimp only;rw[j,zbS];cases r with
   |error p=>
    cases h;exact⟨_,rfl,.inl rfl⟩
   |ok t=>
    dsimp only at h ⊢;unfold Ku at h;cases b:t.freeS []with
    |some p=>
     rw[b]at h;cases h;exact⟨_,rfl,.inl rfl⟩
    |none=>
     rw[b]at h;dsimp only at h ⊢;obtain⟨k,d,h⟩:=zbE.1 h;rw[d,zbS];split at h
     ·rename_i c;rw[mA c];cases h;exact⟨_,rfl,.inl rfl⟩
     ·rename_i c;rw[jA c];obtain⟨o,g,h⟩:=zbE.1 h;cases o with
      |none=>
       cases h;exact⟨_,rfl,.inr ⟨rfl,rfl,t,k,rfl,b,d,oM,g⟩⟩
      |some sh=>
       cases h;exact⟨_,rfl,k,rfl,b,d,oM,g⟩
theorem Tw.Wx{t:Tw.T}{a:Ty}(h:Most t a):Typ t .nil (a.sub λk=>.var k):=(h _).2 ⟨_,rfl⟩
theorem Yy{fo:Nat}{res:RR}(h:∀n,fo<=n->Ie 6100 n s.data.toList=some res)(w:World):Calls prog 40 #[.string s] w (znh w s res):=by
 obtain⟨q,hq,hres⟩:=zag (h fo (znL _));have RD:=bV (zj4 hq w);have types:∀ {t:Tw.T} {wt:Nat},Ae t .nil=some wt->wt<=2000->(∃n,fo<=n/\ofS n t=some none/\∀a,¬Typ t .nil a)\/∃n a,fo<=n/\ofS n t=some (some a.shown)/\Most t a:=λ{t wt} h1 h2=>by
  obtain⟨n0,o,g,h3⟩:=Zt h1 h2;rcases h3 with⟨rfl,h3⟩|⟨a,rfl,h3⟩
  ·exact .inl ⟨n0+fo,oM,g _ oM,h3⟩
  ·exact .inr ⟨n0+fo,a,oM,g _ oM,h3⟩
 cases q with
 |error kp=>
  obtain⟨k,p⟩:=kp;obtain rfl:res=.fault k p:=by
   cases res with
   |fault k' p'=>
    rcases hres with h|⟨_,_,_,_,h,_⟩
    ·cases h;rfl
    ·cases h
   |fine t sh=>obtain⟨_,h,_⟩:=hres;cases h
  go_in;go_wp2_with fail;refine RD.o.mono ?_;rintro e1 w1 ⟨hg,rfl⟩;have G:=bV hg;go_wp2_with fail;go_ret3;exact⟨G.o,rfl⟩
 |ok t=>
  obtain⟨wt,hf,hw,hwt,hways⟩:∃wt,t.freeS []=none/\Ae t .nil=some wt/\wt<=2000/\((res=.fault 5 0/\∀a,¬Typ t .nil a)\/((∃sh,res=.fine t sh)/\∃a,Most t a)):=by
   cases res with
   |fault k p=>
    rcases hres with h'|⟨rfl,rfl,t',wt,e,h1,h2,h3,h4⟩
    ·cases h'
    ·cases e;refine⟨wt,h1,h2,h3,.inl ⟨rfl,?_⟩⟩;rcases types h2 h3 with⟨_,_,_,h5⟩|⟨n,a,hn,h5,_⟩
     ·exact h5
     ·obtain⟨q',hq',hr'⟩:=zag (h n hn);rw[hq]at hq';cases hq';rcases hr' with h6|⟨_,_,_,_,e,_,_,_,h6⟩
      ·cases h6
      ·cases e;rw[h5]at h6;cases h6
   |fine t' sh=>
    obtain⟨wt,e,h1,h2,h3,h4⟩:=hres;cases e;refine⟨wt,h1,h2,h3,.inr ⟨⟨sh,rfl⟩,?_⟩⟩;rcases types h2 h3 with⟨n,hn,h5,_⟩|⟨n,a,hn,_,h6⟩
    ·obtain⟨q',hq',wt',e,_,_,_,h6⟩:=zag (h n hn);rw[hq]at hq';cases hq';cases e;rw[h5]at h6;cases h6
    ·exact⟨a,h6⟩
  have HW:=bV hways
  go_in;go_wp2_with fail;refine RD.o.mono ?_;rintro e1 w1 ⟨hg,bt,rfl,hT,hbt⟩;have G:=bV hg;have TR:=bV hT;have TY:=bV (Yx hT hf hw hwt);go_wp2_with fail;refine TY.o.mono ?_;rintro e2 w2 ⟨hg2,hr⟩;have G2:=bV (Ab G.o hg2);have T2:=bV (TR.o.grown hg2);rcases hr with⟨rfl,hno⟩|⟨a,hm,rfl⟩
  ·obtain rfl:res=.fault 5 0:=by
    rcases HW.o with⟨h,_⟩|⟨_,a,ha⟩
    ·exact h
    ·exact absurd (Wx ha) (hno _)
   go_wp2_with fail;go_ret3;exact⟨G2.o,rfl⟩
  ·obtain⟨sh,rfl⟩:∃sh,res=.fine t sh:=by
    rcases HW.o with⟨_,hno⟩|⟨h,_⟩
    ·exact absurd (Wx hm) (hno _)
    ·exact h
   go_wp2_with fail;go_ret3;exact⟨G2.o,bt,rfl,T2.o,hbt⟩
end
end Go.Proofs.YtckhafpejefbbaaGreatDoor
namespace Go.Proofs.YtckhafpejefbbaaGreatDoor.Tw.Rf
section
open Go Go.Proofs.YtckhafpejefbbaaGreatDoor.Tw
variable{f:Nat->Nat}{n:Nat}{x:RN}
def ul:T->Nat->Sc->List (Nat×Int)
 |.name fr _ x,_,sc=>[(fr,Dl sc x)]
 |.int ..,_,_|.truth ..,_,_|.side ..,_,_=>[]
 |.bracket _ _ i,n,sc=>ul i n sc
 |.pair _ _ a b,n,sc|.call _ _ a b,n,sc|.binary _ _ _ a b,n,sc=>ul a n sc++ul b (n+T.sz a) sc
 |.cond _ _ c a b,n,sc=>ul c n sc++ul a (n+T.sz c) sc++ul b (n+T.sz c+T.sz a) sc
 |.fn _ _ bn _ b,n,sc=>ul b n ((bn,n+T.sz b)::sc)
 |.lett _ _ rc bn _ d b,n,sc=>ul d n (if rc then(bn,n+T.sz d+T.sz b)::sc else sc)++ul b (n+T.sz d) ((bn,n+T.sz d+T.sz b)::sc)
def bl:T->Nat->List (T×Nat)
 |.name ..,_|.int ..,_|.truth ..,_|.side ..,_=>[]
 |.bracket _ _ i,n=>bl i n
 |.pair _ _ a b,n|.call _ _ a b,n|.binary _ _ _ a b,n=>bl a n++bl b (n+T.sz a)
 |.cond _ _ c a b,n=>bl c n++(bl a (n+T.sz c)++bl b (n+T.sz c+T.sz a))
 |.fn f t bn k b,n=>(.fn f t bn k b,n+T.sz b)::bl b n
 |.lett f t rc bn k d b,n=>(.lett f t rc bn k d b,n+T.sz d+T.sz b)::(bl d n++bl b (n+T.sz d))
theorem E8:∀(t:T) (n:Nat),(bl t n).map (·.1)=t.binds
 |.name ..,_|.int ..,_|.truth ..,_|.side ..,_=>rfl
 |.bracket _ _ i,n=>E8 i n
 |.pair _ _ a b,n|.call _ _ a b,n|.binary _ _ _ a b,n=>by simp[bl,T.binds,E8 a,E8 b]
 |.cond _ _ c a b,n=>by simp[bl,T.binds,E8 c,E8 a,E8 b]
 |.fn _ _ _ _ b,n=>by simp[bl,T.binds,E8 b]
 |.lett _ _ _ _ _ d b,n=>by simp[bl,T.binds,E8 d,E8 b]
theorem Rd:∀(sc:Sc) (x:List UInt8),Dl sc x = -1\/∃e∈sc,(e.2:Int)=Dl sc x
 |[],_=>.inl rfl
 |(y,j)::sc,x=>by
  rw[Dl];split
  ·exact .inr ⟨(y,j),sM,rfl⟩
  ·rcases Rd sc x with h|⟨e,a,h⟩
   ·exact .inl h
   ·exact .inr ⟨e,by simp[a],h⟩
theorem Jl:∀(t:T) (n:Nat),∀q∈bl t n,n<=q.2/\q.2<n+T.sz t
 |.name ..,_,q,h|.int ..,_,q,h|.truth ..,_,q,h|.side ..,_,q,h=>by cases h
 |.bracket _ _ i,n,q,h=>by have:=Jl i n q h;simp only[T.sz];omega
 |.pair _ _ a b,n,q,h|.call _ _ a b,n,q,h|.binary _ _ _ a b,n,q,h=>by
  simp only[T.sz];rcases zmA.1 h with h|h
  ·have:=Jl a n q h;omega
  ·have:=Jl b _ q h;omega
 |.cond _ _ c a b,n,q,h=>by
  simp only[T.sz];rcases zmA.1 h with h|h
  ·have:=Jl c n q h;omega
  ·rcases zmA.1 h with h|h
   ·have:=Jl a _ q h;omega
   ·have:=Jl b _ q h;omega
 |.fn _ _ _ _ b,n,q,h=>by
  simp only[T.sz];rcases zmC.1 h with rfl|h
  ·dsimp only;omega
  ·have:=Jl b n q h;omega
 |.lett _ _ _ _ _ d b,n,q,h=>by
  simp only[T.sz];rcases zmC.1 h with rfl|h
  ·dsimp only;omega
  ·rcases zmA.1 h with h|h
   ·have:=Jl d n q h;omega
   ·have:=Jl b _ q h;omega
theorem Hb:∀(t:T) (n:Nat) (sc:Sc) (k:Nat),(∀e∈sc,e.2≠k)->(k<n\/n+T.sz t<=k)->∀fr,(fr,(k:Int))∉ul t n sc
 |.name f _ x,n,sc,k,h,_,fr,g=>by
  simp only[ul,xB,zpI]at g;rcases Rd sc x with m|⟨e,j,m⟩
  ·omega
  ·have:=h e j;omega
 |.int ..,n,sc,k,h,_,fr,g|.truth ..,n,sc,k,h,_,fr,g|.side ..,n,sc,k,h,_,fr,g=>by cases g
 |.bracket _ _ i,n,sc,k,h,hk,fr,g=>Hb i n sc k h (by simp only[T.sz]at hk;omega) fr g
 |.pair _ _ a b,n,sc,k,h,hk,fr,g|.call _ _ a b,n,sc,k,h,hk,fr,g|.binary _ _ _ a b,n,sc,k,h,hk,fr,g=>by
  simp only[T.sz]at hk;rcases zmA.1 g with g|g
  ·exact Hb a n sc k h oM fr g
  ·exact Hb b _ sc k h oM fr g
 |.cond _ _ c a b,n,sc,k,h,hk,fr,g=>by
  simp only[T.sz]at hk;rcases zmA.1 g with g|g
  ·rcases zmA.1 g with g|g
   ·exact Hb c n sc k h oM fr g
   ·exact Hb a _ sc k h oM fr g
  ·exact Hb b _ sc k h oM fr g
 |.fn _ _ bn _ b,n,sc,k,h,hk,fr,g=>by
  simp only[T.sz]at hk;refine Hb b n _ k (λe j=>?_) oM fr g;rcases zmC.1 j with rfl|j
  ·dsimp only;omega
  ·exact h e j
 |.lett _ _ rc bn _ d b,n,sc,k,h,hk,fr,g=>by
  simp only[T.sz]at hk;have l:∀e∈((bn,n+T.sz d+T.sz b)::sc:Sc),e.2≠k:=λe j=>by
   rcases zmC.1 j with rfl|j
   ·dsimp only;omega
   ·exact h e j
  rcases zmA.1 g with g|g
  ·cases rc
   ·exact Hb d n _ k h oM fr g
   ·exact Hb d n _ k l oM fr g
  ·exact Hb b _ _ k l oM fr g
def Just(sc:Sc)(k:Nat)(x:List UInt8)(I:List (List UInt8)):Prop:=∀y,Dl sc y=(k:Int)↔y=x/\y∉I
theorem Just.cons{sc:Sc}{k:Nat}{x:List UInt8}{I:List (List UInt8)}(h:Just sc k x I)(z:List UInt8){j:Nat}(b:j≠k):Just ((z,j)::sc) k x (z::I):=λy=>by
 rw[Dl];by_cases a:z=y
 ·rw[mA a];subst a;constructor
  ·intro e;omega
  ·rintro⟨_,h⟩;simp at h
 ·rw[jA a,h y];have:y≠z:=λe=>a e.symm;simp[this]
theorem Io:∀(t:T) (n:Nat) (sc:Sc) (k:Nat) (x:List UInt8) (I:List (List UInt8)),Just sc k x I->(k<n\/n+T.sz t<=k)->∀fr,(fr,(k:Int))∈ul t n sc↔fr∈t.occ x I
 |.name f _ z,n,sc,k,x,I,h,_,fr=>by
  have:=h z;by_cases o:z=x/\x∉I
  ·obtain⟨rfl,r⟩:=o;have m:Dl sc z=(k:Int):=this.2 ⟨rfl,r⟩;simp[ul,T.occ,r,m]
  ·have m:¬Dl sc z=(k:Int):=λl=>o ⟨(this.1 l).1,by have:=this.1 l;rw[<-this.1];exact this.2⟩;have v:¬(k:Int)=Dl sc z:=λl=>m l.symm;simp[ul,T.occ,o,v]
 |.int ..,n,sc,k,x,I,h,_,fr|.truth ..,n,sc,k,x,I,h,_,fr|.side ..,n,sc,k,x,I,h,_,fr=>by simp[ul,T.occ]
 |.bracket _ _ i,n,sc,k,x,I,h,hk,fr=>Io i n sc k x I h (by simp only[T.sz]at hk;omega) fr
 |.pair _ _ a b,n,sc,k,x,I,h,hk,fr|.call _ _ a b,n,sc,k,x,I,h,hk,fr|.binary _ _ _ a b,n,sc,k,x,I,h,hk,fr=>by
  simp only[T.sz]at hk;have e:=Io a n sc k x I h oM fr;have g:=Io b (n+T.sz a) sc k x I h oM fr;simp only[ul,T.occ,zmA,e,g]
 |.cond _ _ c a b,n,sc,k,x,I,h,hk,fr=>by
  simp only[T.sz]at hk;have s:=Io c n sc k x I h oM fr;have e:=Io a (n+T.sz c) sc k x I h oM fr;have g:=Io b (n+T.sz c+T.sz a) sc k x I h oM fr;simp only[ul,T.occ,zmA,s,e,g,or_assoc]
 |.fn _ _ bn _ b,n,sc,k,x,I,h,hk,fr=>by
  simp only[T.sz]at hk;exact Io b n _ k x _ (h.cons bn oM) oM fr
 |.lett _ _ rc bn _ d b,n,sc,k,x,I,h,hk,fr=>by
  simp only[T.sz]at hk;have p:=h.cons bn (j:=n+T.sz d+T.sz b) oM;simp only[ul,T.occ,zmA];have g:=Io b (n+T.sz d) _ k x _ p oM fr;rw[g];cases rc
  ·have e:=Io d n _ k x _ h oM fr;simp[e]
  ·have e:=Io d n _ k x _ p oM fr;simp[e]
theorem zck{sc:Sc}{k:Nat}(h:∀e∈sc,e.2≠k)(x:List UInt8):Just ((x,k)::sc) k x []:=λy=>by
 rw[Dl];by_cases a:x=y
 ·simp[a]
 ·rw[jA a];have:¬y=x:=λe=>a e.symm;simp only[this,false_and,iff_false];intro e;rcases Rd sc y with b|⟨q,c,b⟩
  ·omega
  ·have:=h q c;omega
theorem Lv:∀(t:T) (n:Nat) (sc:Sc),(∀e∈sc,n+T.sz t<=e.2)->∀q∈bl t n,∀fr,(fr,(q.2:Int))∈ul t n sc↔fr∈q.1.useS
 |.name ..,_,_,_,q,h,_|.int ..,_,_,_,q,h,_|.truth ..,_,_,_,q,h,_|.side ..,_,_,_,q,h,_=>by cases h
 |.bracket _ _ i,n,sc,hs,q,h,fr=>Lv i n sc (λe g=>by have:=hs e g;simp only[T.sz]at this;omega) q h fr
 |.pair _ _ a b,n,sc,hs,q,h,fr|.call _ _ a b,n,sc,hs,q,h,fr|.binary _ _ _ a b,n,sc,hs,q,h,fr=>by
  simp only[T.sz]at hs;simp only[ul,zmA];rcases zmA.1 h with h|h
  ·have j:=Jl a n q h;rw[Lv a n sc (λe g=>by have:=hs e g;omega) q h fr]
   have:=Hb b (n+T.sz a) sc q.2 (λe g=>by have:=hs e g;omega) oM fr;simp[this]
  ·have j:=Jl b _ q h;rw[Lv b _ sc (λe g=>by have:=hs e g;omega) q h fr]
   have:=Hb a n sc q.2 (λe g=>by have:=hs e g;omega) oM fr;simp[this]
 |.cond _ _ c a b,n,sc,hs,q,h,fr=>by
  simp only[T.sz]at hs;simp only[ul,zmA];rcases zmA.1 h with h|h
  ·have j:=Jl c n q h;rw[Lv c n sc (λe g=>by have:=hs e g;omega) q h fr];have l:=Hb a (n+T.sz c) sc q.2 (λe g=>by have:=hs e g;omega) oM fr;have m:=Hb b (n+T.sz c+T.sz a) sc q.2 (λe g=>by have:=hs e g;omega) oM fr;simp[l,m]
  ·rcases zmA.1 h with h|h
   ·have j:=Jl a _ q h;rw[Lv a _ sc (λe g=>by have:=hs e g;omega) q h fr];have l:=Hb c n sc q.2 (λe g=>by have:=hs e g;omega) oM fr;have m:=Hb b (n+T.sz c+T.sz a) sc q.2 (λe g=>by have:=hs e g;omega) oM fr;simp[l,m]
   ·have j:=Jl b _ q h;rw[Lv b _ sc (λe g=>by have:=hs e g;omega) q h fr];have l:=Hb c n sc q.2 (λe g=>by have:=hs e g;omega) oM fr;have m:=Hb a (n+T.sz c) sc q.2 (λe g=>by have:=hs e g;omega) oM fr;simp[l,m]
 |.fn _ _ bn _ b,n,sc,hs,q,h,fr=>by
  simp only[T.sz]at hs;rcases zmC.1 h with rfl|h
  ·exact Io b n _ _ bn [] (zck (λe g=>by have:=hs e g;omega) bn) oM fr
  ·exact Lv b n _ (λe g=>by
    rcases zmC.1 g with rfl|g
    ·exact znL _
    ·have:=hs e g;omega) q h fr
 |.lett _ _ rc bn _ d b,n,sc,hs,q,h,fr=>by
  simp only[T.sz]at hs;have p:=zck (sc:=sc) (k:=n+T.sz d+T.sz b) (λe g=>by have:=hs e g;omega) bn;have o:∀e∈((bn,n+T.sz d+T.sz b)::sc:Sc),n+T.sz d+T.sz b<=e.2:=λe g=>by
   rcases zmC.1 g with rfl|g
   ·exact znL _
   ·have:=hs e g;omega
  have r:∀e∈(if rc then(bn,n+T.sz d+T.sz b)::sc else sc:Sc),n+T.sz d+T.sz b<=e.2:=λe g=>by
   cases rc
   ·have:=hs e g;omega
   ·exact o e g
  simp only[ul,zmA];rcases zmC.1 h with rfl|h
  ·dsimp only[T.useS];rw[zmA,Io b _ _ _ bn [] p oM];cases rc
   ·have:=Hb d n sc (n+T.sz d+T.sz b) (λe g=>by have:=hs e g;omega) oM fr;constructor
    ·rintro(h|h)
     ·exact absurd h this
     ·exact .inr h
    ·rintro(h|h)
     ·cases h
     ·exact .inr h
   ·rw[mA rfl,mA rfl,Io d n _ _ bn [] p oM]
  ·rcases zmA.1 h with h|h
   ·have j:=Jl d n q h;rw[Lv d n _ (λe g=>by have:=r e g;omega) q h fr]
    have:=Hb b (n+T.sz d) _ q.2 (λe g=>by have:=o e g;omega) oM fr;simp[this]
   ·have j:=Jl b _ q h;rw[Lv b _ _ (λe g=>by have:=o e g;omega) q h fr]
    have:=Hb d n _ q.2 (λe g=>by have:=r e g;omega) oM fr;simp[this]
def isB(x:RN):Bool:=x.sort==108||x.sort==114||x.sort==70
structure TabL(f:Nat->Nat)(X:List RN)(L:List (T×Nat))(U:List (Nat×Int))(n:Nat):Prop where
 has:∀q∈L,n<=q.2/\∃x,X[q.2-n]?=some x/\isB x=true/\x.name=f q.1.bpl
 only:∀i x,X[i]?=some x->isB x=true->∃q∈L,q.2=n+i/\x.name=f q.1.bpl
 used:∀u∈U,∃x∈X,x.sort=120/\x.first=f u.1/\x.binder=u.2
 uses:∀x∈X,x.sort=120->∃u∈U,x.first=f u.1/\x.binder=u.2
theorem TabL.app{A C:List RN}{L1 L2:List (T×Nat)}{o p:List (Nat×Int)}{m:Nat}(h:TabL f A L1 o n)(k:TabL f C L2 p m)(w:m=n+A.length):TabL f (A++C) (L1++L2) (o++p) n where
 has:=λq b=>by
  rcases zmA.1 b with b|b
  ·obtain⟨a,x,e,j⟩:=h.has q b;exact⟨a,x,by rw[iA (zlE.1 e).1];exact e,j⟩
  ·obtain⟨a,x,e,j⟩:=k.has q b;exact⟨oM,x,by rw[fB oM,show q.2-n-A.length=q.2-m by omega];exact e,j⟩
 only:=λv x i r=>by
  rcases yB v A.length with l|l
  ·rw[iA l]at i;obtain⟨q,b,a⟩:=h.only v x i r;exact⟨q,eD _ b,a⟩
  ·rw[fB l]at i;obtain⟨q,b,a,e⟩:=k.only _ x i r;exact⟨q,bD _ b,oM,e⟩
 used:=λg c=>by
  rcases zmA.1 c with c|c
  ·obtain⟨x,d,a⟩:=h.used g c;exact⟨x,eD _ d,a⟩
  ·obtain⟨x,d,a⟩:=k.used g c;exact⟨x,bD _ d,a⟩
 uses:=λx d s=>by
  rcases zmA.1 d with d|d
  ·obtain⟨g,c,a⟩:=h.uses x d s;exact⟨g,eD _ c,a⟩
  ·obtain⟨g,c,a⟩:=k.uses x d s;exact⟨g,bD _ c,a⟩
theorem TabL.one(d:isB x=false)(e:x.sort≠120)(n:Nat):TabL f [x] [] [] n where
 has:=λq g=>by cases g
 only:=λi y b a=>by
  cases i with
  |zero=>cases b;rw[d]at a;cases a
  |succ i=>simp at b
 used:=λk j=>by cases j
 uses:=λy c h=>by simp at c;subst c;exact absurd h e
theorem TabL.bind{t:T}(e:isB x=true)(g:x.sort≠120)(a:x.name=f t.bpl)(n:Nat):TabL f [x] [(t,n)] [] n where
 has:=λq c=>by simp at c;subst c;exact⟨znL _,x,sM,e,a⟩
 only:=λi y b k=>by
  cases i with
  |zero=>cases b;exact⟨_,xB.2 rfl,rfl,a⟩
  |succ i=>simp at b
 used:=λl j=>by cases j
 uses:=λy d h=>by simp at d;subst d;exact absurd h g
theorem TabL.same{X:List RN}{L d:List (T×Nat)}{U e:List (Nat×Int)}(h:TabL f X L U n)(g:∀q,q∈d↔q∈L)(i:∀u,u∈e↔u∈U):TabL f X d e n where
 has:=λq b=>h.has q ((g q).1 b)
 only:=λo x k j=>by obtain⟨q,b,a⟩:=h.only o x k j;exact⟨q,(g q).2 b,a⟩
 used:=λu c=>h.used u ((i u).1 c)
 uses:=λx m l=>by obtain⟨u,c,a⟩:=h.uses x m l;exact⟨u,(i u).2 c,a⟩
theorem zh2(a:Int)(h:x.sort=Hd a):isB x=false:=by
 have:Hd a=43\/Hd a=45\/Hd a=42\/Hd a=47\/Hd a=60\/Hd a=61:=by
  unfold Hd
  repeat' split
  all_goals simp
 unfold isB;rw[h];rcases this with e|e|e|e|e|e<;>rw[e]<;>rfl
theorem Fz(f g:Nat->Nat):∀(t:T) (n:Nat) (sc:Sc),TabL f (fill f g t n sc) (bl t n) (ul t n sc) n
 |.name fr _ x,n,sc=>{
   has:=λq m=>by cases m
   only:=λi y hi l=>by
    cases i with
    |zero=>cases hi;cases l
    |succ i=>simp[fill]at hi
   used:=λu e=>by simp[ul]at e;subst e;exact⟨_,xB.2 rfl,rfl,rfl,rfl⟩
   uses:=λy j o=>by simp[fill]at j;subst j;exact⟨_,xB.2 rfl,rfl,rfl⟩}
 |.int ..,n,sc=>TabL.one rfl sM n
 |.truth _ _ b,n,sc=>TabL.one (by cases b<;>rfl) (by cases b<;>simp) n
 |.side _ _ b,n,sc=>TabL.one (by cases b<;>rfl) (by cases b<;>simp) n
 |.bracket _ _ i,n,sc=>((Fz f g i n sc).app (TabL.one (by rfl) sM _) rfl).same (by simp[bl]) (by simp[ul])
 |.pair _ _ a b,n,sc=>(((Fz f g a n sc).app (Fz f g b (n+T.sz a) sc) (by rw[Af])).app (TabL.one (by rfl) sM _) rfl).same (by simp[bl]) (by simp[ul])
 |.call _ _ a b,n,sc=>(((Fz f g a n sc).app (Fz f g b (n+T.sz a) sc) (by rw[Af])).app (TabL.one (by rfl) sM _) rfl).same (by simp[bl]) (by simp[ul])
 |.binary _ _ sg a b,n,sc=>(((Fz f g a n sc).app (Fz f g b (n+T.sz a) sc) (by rw[Af])).app (TabL.one (zh2 sg rfl) (So _) _) rfl).same (by simp[bl]) (by simp[ul])
 |.cond _ _ c a b,n,sc=>((((Fz f g c n sc).app (Fz f g a (n+T.sz c) sc) (by rw[Af])).app (Fz f g b (n+T.sz c+T.sz a) sc) (by rw[eA,Af,Af];omega)).app (TabL.one (by rfl) sM _) rfl).same (by simp[bl]) (by simp[ul])
 |.fn fr t0 bn k b,n,sc=>((Fz f g b n ((bn,n+T.sz b)::sc)).app (TabL.bind (t:=.fn fr t0 bn k b) (by rfl) sM (by rfl) (n+T.sz b)) (by rw[Af])).same (λq=>by simp[bl,or_comm]) (λu=>by simp[ul])
 |.lett fr t0 rc bn k d b,n,sc=>(((Fz f g d n (if rc then(bn,n+T.sz d+T.sz b)::sc else sc)).app (Fz f g b (n+T.sz d) ((bn,n+T.sz d+T.sz b)::sc)) (by rw[Af])).app (TabL.bind (t:=.lett fr t0 rc bn k d b) (by cases rc<;>rfl) (by cases rc<;>simp) (by rfl) (n+T.sz d+T.sz b)) (by rw[eA,Af,Af];omega)).same (λq=>by simp only[bl,zmC,zmA];constructor<;>rintro(h|h)<;>simp_all) (λu=>by simp[ul])
theorem E9:∀(t:T) (n:Nat) (sc:Sc),((ul t n sc).map (·.1)).Sublist t.places
 |.name ..,_,_=>List.Sublist.refl _
 |.int ..,_,_|.truth ..,_,_|.side ..,_,_=>List.Sublist.refl _
 |.bracket _ _ i,n,sc=>E9 i n sc
 |.pair _ _ a b,n,sc|.call _ _ a b,n,sc|.binary _ _ _ a b,n,sc=>by
  simp only[ul,T.places,vB];exact(E9 a n sc).append (E9 b _ sc)
 |.cond _ _ c a b,n,sc=>by
  simp only[ul,T.places,vB,wA];exact(E9 c n sc).append ((E9 a _ sc).append (E9 b _ sc))
 |.fn _ _ _ _ b,n,sc=>(E9 b n _).cons _
 |.lett _ _ _ _ _ d b,n,sc=>by
  simp only[ul,T.places,vB];exact((E9 d n _).append (E9 b _ _)).cons _
theorem Fa:∀t:T,(t.binds.map (·.bpl)).Sublist t.places
 |.name .. =>List.nil_sublist _
 |.int ..|.truth ..|.side .. =>List.Sublist.refl _
 |.bracket _ _ i=>Fa i
 |.pair _ _ a b|.call _ _ a b|.binary _ _ _ a b=>by
  simp only[T.binds,T.places,vB];exact(Fa a).append (Fa b)
 |.cond _ _ c a b=>by
  simp only[T.binds,T.places,vB];exact(Fa c).append ((Fa a).append (Fa b))
 |.fn _ _ _ _ b=>(Fa b).cons_cons _
 |.lett _ _ _ _ _ d b=>by
  simp only[T.binds,T.places,vB,List.map_cons];exact((Fa d).append (Fa b)).cons_cons _
theorem Ss{d :Type}{k :d -> Nat}:∀ {L:List d},(L.map k).Pairwise (· < ·)->∀ {a b :d},a∈L->b∈L->k a=k b->a=b
 |[],_,_,_,h,_,_=>by cases h
 |x::L,h,a,b,ha,c,e=>by
  rw[List.map_cons,List.pairwise_cons]at h;rcases zmC.1 ha with rfl|_
  ·rcases zmC.1 c with rfl|c
   ·rfl
   ·have:=h.1 (k b) (List.mem_map_of_mem c);omega
  ·rename_i g;rcases zmC.1 c with rfl|c
   ·have:=h.1 (k a) (List.mem_map_of_mem g);omega
   ·exact Ss h.2 g c e
def Ci(N:List RN)(i:Nat):Int:=match N.findIdx? (λx=>isB x&&x.name==i)with
 |some k=>(k:Int)
 |none=>-1
def Y7(N:List RN)(i:Nat):Int:=match N.find? (λx=>x.sort==120&&x.first==i)with
 |some x=>x.binder
 |none=>-1
section
variable {f:Nat -> Nat}{N:List RN}{t:T}
variable{q:T×Nat}
theorem zne(c:t.places.Pairwise (· < ·)){a:T×Nat}(h:q∈bl t 0)(b:a∈bl t 0)(e:q.1.bpl=a.1.bpl):q=a:=by
 have d:((bl t 0).map λq=>q.1.bpl).Pairwise (· < ·):=by
  have:((bl t 0).map λq=>q.1.bpl)=t.binds.map (·.bpl):=by rw[<-E8 t 0,List.map_map];rfl
  rw[this];exact c.sublist (Fa t)
 exact Ss d h b e
theorem zcl(h:q∈bl t 0):q.1.bpl∈t.places:=Cd t q.1 (by rw[<-E8 t 0];exact List.mem_map_of_mem h)
theorem zev(d:TabL f N (bl t 0) (ul t 0 []) 0)(i:t.places.Pairwise (· < ·))(g:∀p q,p∈t.places->f p=f q->p=q)(b:q∈bl t 0):Ci N (f q.1.bpl)=(q.2:Int):=by
 unfold Ci;cases h:N.findIdx? (λx=>isB x&&x.name==f q.1.bpl)with
 |none=>
  obtain⟨_,x,o,e,l⟩:=d.has q b;rw[List.findIdx?_eq_none_iff]at h
  have:=h x (dD o);simp[e,l]at this
 |some k=>
  obtain⟨j,a,_⟩:=List.findIdx?_eq_some_iff_getElem.1 h;simp at a;obtain⟨s,m,r,c⟩:=d.only k N[k] (fA j) a.1;rw[a.2]at c
  have:=zne i b m (g _ _ (zcl b) c);subst this;dsimp only;omega
theorem zh3(c:TabL f N (bl t 0) (ul t 0 []) 0){i:Nat}(hi:∀q∈bl t 0,f q.1.bpl≠i):Ci N i = -1:=by
 unfold Ci;cases h:N.findIdx? (λx=>isB x&&x.name==i)with
 |none=>rfl
 |some k=>
  obtain⟨d,a,_⟩:=List.findIdx?_eq_some_iff_getElem.1 h;simp at a;obtain⟨g,e,j,b⟩:=c.only k N[k] (fA d) a.1;rw[a.2]at b;exact absurd b.symm (hi g e)
theorem zl5(j:TabL f N (bl t 0) (ul t 0 []) 0)(v:t.places.Pairwise (· < ·))(s:∀p q,p∈t.places->f p=f q->p=q)(w:q∈bl t 0){p:Nat}:Y7 N (f p)=(q.2:Int)↔p∈q.1.useS:=by
 have d:=Lv t 0 [] (λe r=>by cases r) q w p;have z:∀b∈ul t 0 [],b.1∈t.places:=λb d=>(E9 t 0 []).mem (List.mem_map_of_mem d);have y:((ul t 0 []).map (·.1)).Pairwise (· < ·):=v.sublist (E9 t 0 []);rw[<-d];unfold Y7;cases h:N.find? (λx=>x.sort==120&&x.first==f p)with
 |none=>
  constructor
  ·intro e;dsimp only at e;omega
  ·intro c;obtain⟨x,i,a,o,_⟩:=j.used _ c;rw[List.find?_eq_none]at h;exact absurd (h x i) (by simp[a,o])
 |some x=>
  have i:=List.mem_of_find?_eq_some h;have a:=List.find?_some h;simp at a;obtain⟨b,g,k,l⟩:=j.uses x i a.1;rw[a.2]at k;have e:=s _ _ (z b g) k.symm;dsimp only;constructor
  ·intro m;rw[<-m,l,<-e];exact g
  ·intro c
   have:=Ss y g c e;rw[l,this]
end
end
end Go.Proofs.YtckhafpejefbbaaGreatDoor.Tw.Rf
namespace Go.Proofs.YtckhafpejefbbaaGreatDoor
section
open Tw Tw.Rf Go.Proofs.Tryz
open Go.RowKit
section
variable {w:World}{B bt:Nat}{s:ByteArray}{body:List Tw.Tok}{N:List Tw.Rf.RN}{tv nv:Value}{root er:Int}
variable{α:Type}
theorem zah{p :α -> Bool}{l:List α}(h:∀(j:Nat) (x :α),l[j]?=some x->p x=false):l.findIdx? p=none:=by
 rw[List.findIdx?_eq_none_iff];intro x b;obtain⟨j,a⟩:=List.getElem?_of_mem b;exact h j x a
theorem zai{p :α -> Bool}{l:List α}{k:Nat}{x :α}(c:l[k]?=some x)(d:p x=true)(h:∀j:Nat,j<k->∀y :α,l[j]?=some y->p y=false):l.findIdx? p=some k:=by
 rw[List.findIdx?_eq_some_iff_getElem];obtain⟨a,rfl⟩:=zlE.1 c;exact⟨a,d,λj b=>by simp[h j b _ (List.getElem?_eq_getElem oM)]⟩
theorem Pw{a:Nat}{z:Int}(h:(a:Int)=z)(b:Nat):(a==b)=(z==(b:Int)):=by
 subst h;rw[Bool.eq_iff_iff];constructor
 ·intro h;have:=beq_iff_eq.1 h;exact beq_iff_eq.2 oM
 ·intro h;have:=beq_iff_eq.1 h;exact beq_iff_eq.2 oM
theorem zcm (h:RT w B bt s body N tv nv root er) (i:Nat):Calls prog 124 #[pT bt,vI i] w fun e w'=>e = .returned (vI (Rf.Ci N i))/\w.grownBy w' none:=by
  have hfew:=h.few
  obtain⟨_,_,t2,_,_⟩:=h.cells
  obtain⟨pn,cn,rfl⟩:∃p c,nv=.slice p N.length c:=by
    rcases h.nodes.2 with⟨e1,e2⟩|⟨g2,cap2,_,e1,_⟩
    · exact ⟨_,_,by rw [e1,e2]⟩
    · exact ⟨_,_,e1⟩
  have cN:prog.cellsOf 276=9:=kR
  obtain⟨r,hr⟩:∃r,Rf.Ci N i=r:=⟨_,rfl⟩
  rw[hr]
  have HR:=bV hr
  have H:=bV h
  clear h hr
  go_in
  go_wp2_with fail
  go_loopg[5] N.length (λm kv wr=>∃k:Nat,kv=vI k/\wr=w/\k+m=N.length/\Hid (∀j,j<k->∀y,N[j]?=some y->(isB y&&y.name==i)=false))
  case atStart=>exact⟨0,rfl,rfl,oM,bV (λj hj=>oM)⟩
  case round=>
    obtain⟨k,rfl,rfl,hk,HK⟩:=hrel
    rcases jD (show k<=N.length by omega)with he|hlt
    · have hkl:¬(k:Int)<(N.length:Int):=oM
      have HX:Hid (r = -1):=bV (by
        rw [<-HR.o,Rf.Ci,zah (fun j x hx=>HK.o j (by have:=(zlE.1 hx).1; omega) x hx)])
      go_wp2_with fail
      go_ret
      exact⟨by rw[HX.o];rfl,Aa _⟩
    · have hkl:(k:Int)<(N.length:Int):=oM
      obtain⟨x,hx⟩:∃x,N[k]?=some x:=⟨_,fA hlt⟩
      obtain⟨g,cap,e,d0,d1,d2,d3,d4,d5,d6,d7,d8,_⟩:=H.o.node hx
      cases e
      obtain⟨so,hso⟩:∃so:Int,(x.sort:Int)=so:=⟨_,rfl⟩
      obtain⟨nm,hnm⟩:∃nm:Int,(x.name:Int)=nm:=⟨_,rfl⟩
      rw[hso]at d0
      rw[hnm]at d6
      have hb:isB x=((so==108||so==114)||so==70):=by
        unfold isB
        rw[Pw hso 108,Pw hso 114,Pw hso 70]
        rfl
      have hn:(x.name==i)=(nm==(i:Int)):=Pw hnm i
      have next:(isB x&&x.name==i)=false->Hid (∀j,j<k+1->∀y,N[j]?=some y->(isB y&&y.name==i)=false):=λhf=>bV λj hj y hy=>by
        rcases Nat.lt_or_eq_of_le (Nat.le_of_lt_succ hj)with h|rfl
        · exact HK.o j h y hy
        · rw [hx] at hy; cases hy; exact hf
      have here:(isB x&&x.name==i)=true->Hid (r=(k:Int)):=fun hf=>bV (by
        rw [<-HR.o,Rf.Ci,zai hx hf HK.o])
      rw[hb,hn]at next here
      have NX:=bV next
      have HE:=bV here
      clear next here hb hn hso hnm hx
      cases b1:so==108<;>cases b2:so==114<;>cases b3:so==70<;>cases b4:nm==(i:Int)
      all_goals
        first
          | (have N2:=NX.o (by rw [b1,b2,b3,b4]; rfl)
             clear NX HE
             go_wp2_with fail
             go_roundg (N.length-(k+1))
             case measure=>omega
             case rel=>exact ⟨k+1,by push_cast; rfl,rfl,oM,N2⟩)
          | (have H2:=HE.o (by rw [b1,b2,b3,b4]; rfl)
             clear NX HE
             go_wp2_with fail
             go_ret
             exact ⟨by rw [H2.o]; rfl,Aa _⟩)
theorem zh4(h:RT w B bt s body N tv nv root er)(i:Nat):Calls prog 125 #[pT bt,vI i] w λe M=>e=.returned (vI (Y7 N i))/\w.grownBy M none:=by
 have a0:=h.few;obtain⟨_,_,t2,_,_⟩:=h.cells;obtain⟨pn,R,rfl⟩:∃p c,nv=.slice p N.length c:=by
  rcases h.nodes.2 with⟨d,D⟩|⟨g2,Q,_,d,_⟩
  ·exact⟨_,_,by rw[d,D]⟩
  ·exact⟨_,_,d⟩
 have O:prog.cellsOf 276=9:=kR;obtain⟨r,m⟩:∃r,Y7 N i=r:=⟨_,rfl⟩;rw[m];have t:=bV m;have H:=bV h
 go_in;go_wp2_with fail;go_loopg[5] N.length (λL J wr=>∃k:Nat,J=vI k/\wr=w/\k+L=N.length/\Hid (r=match(N.drop k).find? (λx=>x.sort==120&&x.first==i)with|some x=>x.binder|none=>-1))
 case atStart=>exact⟨0,rfl,rfl,oM,bV t.o.symm⟩
 case round=>
  obtain⟨k,rfl,rfl,hk,HK⟩:=hrel;rcases jD (show k<=N.length by omega)with he|I
  ·have G:¬(k:Int)<(N.length:Int):=oM;have v:Hid (r = -1):=bV (by rw[HK.o,List.drop_eq_nil_of_le oM];rfl);go_wp2_with fail;go_ret;exact⟨by rw[v.o];rfl,Aa _⟩
  ·have G:(k:Int)<(N.length:Int):=oM;obtain⟨x,o⟩:∃x,N[k]?=some x:=⟨_,fA I⟩;obtain⟨Z,P,e,A,S,T,U,C,V,W,X,Y,_⟩:=H.o.node o;cases e;obtain⟨b,n⟩:∃b:Int,(x.sort:Int)=b:=⟨_,rfl⟩;obtain⟨f,j⟩:∃f:Int,(x.first:Int)=f:=⟨_,rfl⟩;rw[n]at A;rw[j]at C;have F:N.drop k=x::N.drop (k+1):=by
    obtain⟨E,rfl⟩:=zlE.1 o;exact lD E
   have g:=HK.o;rw[F,List.find?_cons,Pw n 120,Pw j i]at g;have q:=bV g;cases y:b==120<;>cases z:f==(i:Int)
   all_goals
    have l:=q.o;rw[show(b==((120:Nat):Int))=_ from y,z]at l;have a:=bV l
   rotate_left 3
   ·have a:Hid (r=x.binder):=a;go_wp2_with fail;go_ret;exact⟨by rw[a.o];rfl,Aa _⟩
   all_goals
    go_wp2_with fail;go_roundg (N.length-(k+1))
    case measure=>omega
    case rel=>exact⟨k+1,by push_cast;rfl,rfl,oM,a⟩
end
end
section
open Tw Tw.Rf Go.Proofs.Tryz
open Go.RowKit
theorem Tryz.infoB:(Tryz.prog.info? 48).map (λi=>(i.zero,i.size,i.bytes))=some (some (.agg #[.string ⟨#[]⟩,vI 0,zN]),3,48):=kR
namespace Tw.Rf
variable{l:List UInt8}{body:List Tok}{t:T}
theorem zaj:∀ {a b:List Nat},a.Pairwise (· < ·)->b.Pairwise (· < ·)->(∀x,x∈a↔x∈b)->a=b
 |[],[],_,_,_=>rfl
 |[],y::b,_,_,h=>by have:=(h y).2 sM;cases this
 |x::a,[],_,_,h=>by have:=(h x).1 sM;cases this
 |x::a,y::b,ha,hb,h=>by
  rw[List.pairwise_cons]at ha hb;have g:x=y:=by
   rcases zmC.1 ((h x).1 sM)with e|e
   ·exact e
   ·rcases zmC.1 ((h y).2 sM)with d|d
    ·exact d.symm
    ·have:=hb.1 x e;have:=ha.1 y d;omega
  subst g;rw[zaj ha.2 hb.2 λz=>?_];have f:=h z;constructor
  ·intro c
   have:=ha.1 z c;rcases zmC.1 (f.1 (by simp[c]))with e|e
   ·omega
   ·exact e
  ·intro c
   have:=hb.1 z c;rcases zmC.1 (f.2 (by simp[c]))with e|e
   ·omega
   ·exact e
def Ir(m:T)(L:List Tok):List Nat:=(L.filter λtk=>decide (tk.fr∈m.useS)).map (·.fr)
def Ih(t:T)(L:List Tok):List T:=L.filterMap λtk=>t.binds.find? λm=>m.bpl==tk.fr
theorem zak(a:Lex 0 l body):(body.map (·.fr)).Pairwise (· < ·):=by
 rw[List.pairwise_map];refine a.apart.imp_of_mem ?_;intro b d c _ h
 have:=(a.toks.1 b c).lt;omega
theorem Ic:∀(t:T),∀m∈t.binds,m.useS.Sublist t.places
 |.name ..,_,h|.int ..,_,h|.truth ..,_,h|.side ..,_,h=>by cases h
 |.bracket _ _ i,m,h=>Ic i m h
 |.pair _ _ a b,m,h|.call _ _ a b,m,h|.binary _ _ _ a b,m,h=>by
  rcases zmA.1 h with h|h
  ·exact(Ic a m h).trans (List.sublist_append_left _ _)
  ·exact(Ic b m h).trans (List.sublist_append_right _ _)
 |.cond _ _ c a b,m,h=>by
  rcases zmA.1 h with h|h
  ·exact(Ic c m h).trans (List.sublist_append_left _ _)
  ·rcases zmA.1 h with h|h
   ·exact((Ic a m h).trans (List.sublist_append_left _ _)).trans (List.sublist_append_right _ _)
   ·exact((Ic b m h).trans (List.sublist_append_right _ _)).trans (List.sublist_append_right _ _)
 |.fn _ _ n _ a,m,h=>by
  rcases zmC.1 h with rfl|h
  ·exact(Bx n a []).cons _
  ·exact(Ic a m h).cons _
 |.lett _ _ r n _ a b,m,h=>by
  rcases zmC.1 h with rfl|h
  ·refine List.Sublist.cons _ (List.Sublist.append ?_ (Bx n b []));cases r
   ·exact List.nil_sublist _
   ·exact Bx n a []
  ·rcases zmA.1 h with h|h
   ·exact((Ic a m h).trans (List.sublist_append_left _ _)).cons _
   ·exact((Ic b m h).trans (List.sublist_append_right _ _)).cons _
theorem Tx(b:Text l body t){p:Nat}(a:p∈t.places):∃tk∈body,tk.fr=p:=by
 rw[Bn,List.mem_map]at a;obtain⟨sp,d,rfl⟩:=a;obtain⟨k,c,_,h,_⟩:=b.span sp d;exact⟨k,c,h⟩
theorem Ex:∀(t:T),∀m∈t.binds,(m.bpl,m.bpl+m.bname.length,m.bname)∈t.spans
 |.name ..,_,h|.int ..,_,h|.truth ..,_,h|.side ..,_,h=>by cases h
 |.bracket _ _ i,m,h=>Ex i m h
 |.pair _ _ a b,m,h|.call _ _ a b,m,h|.binary _ _ _ a b,m,h=>by
  rcases zmA.1 h with h|h
  ·exact eD _ (Ex a m h)
  ·exact bD _ (Ex b m h)
 |.cond _ _ c a b,m,h=>by
  rcases zmA.1 h with h|h
  ·exact eD _ (Ex c m h)
  ·rcases zmA.1 h with h|h
   ·exact bD _ (eD _ (Ex a m h))
   ·exact bD _ (bD _ (Ex b m h))
 |.fn _ _ n _ a,m,h=>by
  rcases zmC.1 h with rfl|h
  ·exact List.mem_cons_self
  ·exact List.mem_cons_of_mem _ (Ex a m h)
 |.lett _ _ r n _ a b,m,h=>by
  rcases zmC.1 h with rfl|h
  ·exact List.mem_cons_self
  ·rcases zmA.1 h with h|h
   ·exact List.mem_cons_of_mem _ (eD _ (Ex a m h))
   ·exact List.mem_cons_of_mem _ (bD _ (Ex b m h))
theorem zew{m:T}(c:Lex 0 l body)(a:Text l body t)(d:m∈t.binds):Ir m body=m.useS:=by
 have b:=Ic t m d;refine zaj ((zak c).sublist (List.filter_sublist.map _)) (a.inc.sublist b) λx=>?_;simp only[Ir,List.mem_map,List.mem_filter,fE];constructor
 ·rintro⟨tk,⟨_,h⟩,rfl⟩;exact h
 ·intro h;obtain⟨tk,e,rfl⟩:=Tx a (b.mem h);exact⟨tk,⟨e,h⟩,rfl⟩
theorem zcn{t:T}(d:(t.binds.map (·.bpl)).Pairwise (· < ·)):∀ {a b:List T},(∀m∈a,m∈t.binds)->(∀m∈b,m∈t.binds)->a.map (·.bpl)=b.map (·.bpl)->a=b
 |[],[],_,_,_=>rfl
 |[],_::_,_,_,h=>by simp at h
 |_::_,[],_,_,h=>by simp at h
 |x::a,y::b,ha,hb,h=>by
  simp only[List.map_cons,List.cons.injEq]at h;rw[Ss d (ha x sM) (hb y sM) h.1,zcn d (λm c=>ha m (by simp[c])) (λm c=>hb m (by simp[c])) h.2]
theorem Uw(t:T):∀L:List Tok,((Ih t L).map (·.bpl)).Sublist (L.map (·.fr))/\∀m∈Ih t L,m∈t.binds
 |[]=>⟨List.Sublist.refl _,λm h=>by cases h⟩
 |tk::L=>by
  obtain⟨a,b⟩:=Uw t L;unfold Ih at a b ⊢;rw[List.filterMap_cons];cases h:t.binds.find? (λm=>m.bpl==tk.fr)with
  |none=>exact⟨a.cons _,b⟩
  |some m=>
   have d:m.bpl=tk.fr:=(by simpa using List.find?_some h);refine⟨?_,λe c=>?_⟩
   ·simp only[List.map_cons,d];exact a.cons_cons _
   ·rcases zmC.1 c with rfl|c
    ·exact List.mem_of_find?_eq_some h
    ·exact b e c
theorem zco(g:Lex 0 l body)(c:Text l body t):Ih t body=t.binds:=by
 have d:=c.inc.sublist (Fa t);obtain⟨f,b⟩:=Uw t body;refine zcn d b (λ_ h=>h) (zaj ((zak g).sublist f) d λx=>?_);simp only[List.mem_map];constructor
 ·rintro⟨m,a,rfl⟩;exact⟨m,b m a,rfl⟩
 ·rintro⟨m,a,rfl⟩;obtain⟨tk,i,e⟩:=Tx c (Cd t m a);cases h:t.binds.find? (λm=>m.bpl==tk.fr)with
  |none=>
   rw[List.find?_eq_none]at h;exact absurd (h m a) (by simp[e])
  |some m'=>
   refine⟨m',List.mem_filterMap.2 ⟨tk,i,h⟩,?_⟩;have:m'.bpl=tk.fr:=(by simpa using List.find?_some h);rw[this,e]
theorem zal(g:Text l body t)(p q:Nat)(j:p∈t.places)(h:ixF body p=ixF body q):p=q:=by
 obtain⟨tk,k,e⟩:=Tx g j;have a:ixF body p<body.length:=List.findIdx_lt_length_of_exists ⟨tk,k,by simp[e]⟩;have b:=List.findIdx_getElem (w:=a);have i:ixF body q<body.length:=by rw[<-h];exact a
 have d:=List.findIdx_getElem (w:=i);have c:body[ixF body p].fr=p:=beq_iff_eq.1 b;have f:body[ixF body q].fr=q:=beq_iff_eq.1 d;have:body[ixF body p]=body[ixF body q]:=by congr 1
 rw[<-c,<-f,this]
end Tw.Rf
variable{l:List UInt8}{w:World}{body:List Tw.Tok}{t:Tw.T}
theorem zl6{a b:List Tw.Tok}(f:Lex 0 l a)(g:Lex 0 l b):a=b:=by
 have d:=Hy.2 ⟨a,f,rfl⟩;have c:=Hy.2 ⟨b,g,rfl⟩;rw[d]at c;injection c with e;exact List.append_cancel_right e
theorem Eh{b:Nat}{t:TypeId}{a0 a1 a2:Value}(h:w.heap[b]?=some (.cells #[a0,a1,a2] t (0,0))):w.cell? (aD b 0)=some a0/\w.cell? (aD b 1)=some a1/\w.cell? (aD b 2)=some a2:=by
 refine⟨?_,?_,?_⟩<;>(rw[mB _ _ _ _ _ _ h];rfl)
theorem zh5{m:Tw.T}(d:Lex 0 l body)(f:Tw.Text l body t)(i:m∈t.binds){tk:Tw.Tok}(j:tk∈body)(h:m.bpl=tk.fr):m.bname=Bf l tk.fr tk.to:=by
 obtain⟨k,g,_,a,b,c⟩:=f.span _ (Ex t m i);dsimp only at a b c;have e:k=tk:=Ss (zak d) g j (a.trans h);rw[c,<-b,<-a,e]
def BsAt(w:World)(B:Nat)(v:Value)(E:List (Tw.T×Value)):Prop:=w.ownsRow B 48 3 v E.length (B9 E)/\∀e∈E,UsesAt w e.2 e.1.useS
theorem zam{bt:Nat}{s:ByteArray}(hT:RTree w bt s t)(hop:Opened s.data.toList t body):Calls prog 69 #[pT bt] w λe w'=>(∃v,e=.returned v/\BdAt w' v t.binds)/\w.grownBy w' none:=by
 obtain⟨body',tv,nv,hL,hR,hG⟩:=hT;obtain rfl:body'=body:=zl6 hL hop.lex;have hmany:=hR.many;obtain⟨i0,hi0,hz0,hz1,hz2⟩:=info_parts Tryz.infoB;obtain⟨N,hN⟩:∃N,fill (ixF body') (ixT body') t 0 []=N:=⟨_,rfl⟩;have hTab:=Fz (ixF body') (ixT body') t 0 [];rw[hN]at hR hTab;have HTAB:=bV hTab;have HT:=bV hop.text;have HLX:=bV hL;have H:=bV hR;obtain⟨⟨pt,ct,rfl⟩,-⟩:=Gm hR.toks;have cB:prog.cellsOf 48=3:=kR;have hii:(prog.info? 3).map (λi=>(i.zero,i.size,i.bytes))=some (some (vI 0),1,8):=kR;obtain⟨j0,hj0,hy0,hy1,hy2⟩:=info_parts hii;have cK:prog.cellsOf 273=3:=kR;clear hR hTab hN hG hop
 go_in;go_wp2_with fail;go_loopg[3,4] body'.length (λm lv iv wr=>∃(i:Nat) (E:List (Tw.T×Value)),iv=vI i/\i+m=body'.length/\Hid (E.map (·.1)=Ih t (body'.take i))/\E.length<=i/\Hid (BsAt wr w.heap.size lv E)/\Hid (w.grownBy wr none))
 case atStart=>exact⟨0,[],rfl,oM,bV rfl,sM,bV ⟨mD _ _ _ _,λe he=>by cases he⟩,bV (Aa w)⟩
 case round=>
  obtain⟨i,E,rfl,him,HE,hEi,BE,GE⟩:=hrel;have R1:=bV (H.o.grown GE.o);obtain⟨_,c1,_,_,_⟩:=R1.o.cells;rcases jD (show i<=body'.length by omega)with he|hlt
  ·have hil:¬(i:Int)<(body'.length:Int):=oM;have HB:Hid (BdAt wr u3 t.binds):=by
    refine bV ⟨E,?_,Jf BE.o.1,BE.o.2⟩;rw[HE.o,he,List.take_length];exact zco HLX.o HT.o
   go_wp2_with fail;go_ret;exact⟨⟨_,rfl,HB.o⟩,GE.o⟩
  ·have hil:(i:Int)<(body'.length:Int):=oM;obtain⟨tk,htk⟩:∃tk,body'[i]?=some tk:=⟨_,fA hlt⟩;have hix:=Ds HLX.o htk;have htake:body'.take (i+1)=body'.take i++[tk]:=(by rw[List.take_add_one,htk];rfl);have BN:=bV (zcm R1.o i);cases hfd:t.binds.find? (λm=>m.bpl==tk.fr)with
   |none=>
    have hno:Rf.Ci N i = -1:=zh3 HTAB.o λq hq e=>by
     rw[<-hix]at e;have e2:=zal HT.o _ _ (zcl hq) e;rw[List.find?_eq_none]at hfd;exact absurd (hfd q.1 (by rw[<-E8 t 0];exact List.mem_map_of_mem hq)) (by simp[e2])
    rw[hno]at BN;have HE2:Hid (E.map (·.1)=Ih t (body'.take (i+1))):=bV (by
     rw[htake,Ih,List.filterMap_append,List.filterMap_cons,hfd]
     have:=HE.o;unfold Ih at this;simp[this])
    clear hno hfd htake hix HE;go_wp2_with fail;refine BN.o.mono ?_;rintro e2 w2 ⟨rfl,hg2⟩;have B2:Hid (BsAt w2 w.heap.size u3 E):=bV ⟨A6 BE.o.1 hg2,λe he=>A6 (BE.o.2 e he) hg2⟩;have G2:=bV (Ab GE.o hg2);clear hg2 BN;go_wp2_with fail;go_roundg (body'.length-(i+1))
    case measure=>omega
    case rel=>exact⟨i+1,E,by push_cast;rfl,oM,HE2,oM,B2,G2⟩
   |some m=>
    have hmb:=List.mem_of_find?_eq_some hfd;have hmp:m.bpl=tk.fr:=(by simpa using List.find?_some hfd);obtain⟨q,hq,hqm⟩:∃q∈bl t 0,q.1=m:=by
     rw[<-E8 t 0,List.mem_map]at hmb;exact hmb
    obtain⟨m',k⟩:=q;dsimp only at hqm;subst hqm;have hyes:=zev HTAB.o HT.o.inc (zal HT.o) hq;dsimp only at hyes;rw[hmp,hix]at hyes;rw[hyes]at BN;have HUS:Hid (∀p,Y7 N (ixF body' p)=(k:Int)↔p∈m'.useS):=bV λp=>zl5 HTAB.o HT.o.inc (zal HT.o) hq;have HE2:Hid (E.map (·.1)++[m']=Ih t (body'.take (i+1))):=bV (by
     rw[htake,Ih,List.filterMap_append,List.filterMap_cons,hfd]
     have:=HE.o;unfold Ih at this;simp[this])
    have HMB:=bV hmb;have HNM:Hid (m'.bname=Bf s.data.toList tk.fr tk.to/\m'.bpl=tk.fr):=bV ⟨zh5 HLX.o HT.o hmb (dD htk) hmp,hmp⟩;have hk0:¬(k:Int)<0:=oM;have HTK:=bV htk;clear hyes hfd htake hix HE hq hmb hmp htk;go_wp2_with fail;refine BN.o.mono ?_;rintro e2 w2 ⟨rfl,hg2⟩;have B2:Hid (BsAt w2 w.heap.size u3 E):=bV ⟨A6 BE.o.1 hg2,λe he=>A6 (BE.o.2 e he) hg2⟩;have G2:=bV (Ab GE.o hg2);have R2:=bV (R1.o.grown hg2);clear hg2 BN c1 R1 BE GE;obtain⟨-,htc⟩:=Gm R2.o.toks;obtain⟨gt,_,e,k0,-,k2⟩:=htc i tk HTK.o;cases e;obtain⟨_,c1,_,_,_⟩:=R2.o.cells;go_upto_region 7 with fail;have hmx:prog.follows .mixedOrders=true:=kR;refine Er (λW=>W.cell? (aD bt 1)=some (sL gt body'.length ct)/\W.cell? (aD gt (i*3))=some (.string ⟨(Bf s.data.toList tk.fr tk.to).toArray⟩)/\W.cell? (aD gt (i*3+2))=some (vI tk.fr)) hmx ⟨c1,k0,k2⟩ ?_;intro hSd;have GD:w2.grownBy w2.drew none:=Ad (Aa w2);obtain⟨wd,hwd⟩:∃wd,w2.drew=wd:=⟨_,rfl⟩;rw[hwd]at hSd GD;rw[hwd];clear hwd c1 k0 k2;refine tkH 0 (v:=pT bt) rfl (λW ⟨e1,e2,e3⟩=>by go_simp) hSd ?_;simp only[Act.put];refine tkH 1 (v:=pT bt) rfl (λW ⟨e1,e2,e3⟩=>by go_simp) hSd ?_;simp only[Act.put];refine tkH 2 (v:=.pointer (some (aD bt 1))) rfl (λW ⟨e1,e2,e3⟩=>by go_simp) hSd ?_;simp only[Act.put];refine tkH 3 (v:=sL gt body'.length ct) rfl (λW ⟨e1,e2,e3⟩=>by go_simp) hSd ?_;simp only[Act.put];refine tkH 4 (v:=vI i) rfl (λW ⟨e1,e2,e3⟩=>by go_simp) hSd ?_;simp only[Act.put];refine tkH 5 (v:=.pointer (some (aD gt (i*3)))) rfl (λW ⟨e1,e2,e3⟩=>by go_simp) hSd ?_;simp only[Act.put];refine tkH 6 (v:=.pointer (some (aD gt (i*3)))) rfl (λW ⟨e1,e2,e3⟩=>by go_simp) hSd ?_;simp only[Act.put];refine tkH 7 (v:=.string ⟨(Bf s.data.toList tk.fr tk.to).toArray⟩) rfl (λW ⟨e1,e2,e3⟩=>by go_simp) hSd ?_;simp only[Act.put];refine tkH 8 (v:=pT bt) rfl (λW ⟨e1,e2,e3⟩=>by go_simp) hSd ?_;simp only[Act.put];refine tkH 9 (v:=pT bt) rfl (λW ⟨e1,e2,e3⟩=>by go_simp) hSd ?_;simp only[Act.put];refine tkH 10 (v:=.pointer (some (aD bt 1))) rfl (λW ⟨e1,e2,e3⟩=>by go_simp) hSd ?_;simp only[Act.put];refine tkH 11 (v:=sL gt body'.length ct) rfl (λW ⟨e1,e2,e3⟩=>by go_simp) hSd ?_;simp only[Act.put];refine tkH 12 (v:=vI i) rfl (λW ⟨e1,e2,e3⟩=>by go_simp) hSd ?_;simp only[Act.put];refine tkH 13 (v:=.pointer (some (aD gt (i*3)))) rfl (λW ⟨e1,e2,e3⟩=>by go_simp) hSd ?_;simp only[Act.put];refine tkH 14 (v:=.pointer (some (aD gt (i*3+2)))) rfl (λW ⟨e1,e2,e3⟩=>by go_simp) hSd ?_;simp only[Act.put];refine tkH 15 (v:=vI tk.fr) rfl (λW ⟨e1,e2,e3⟩=>by go_simp) hSd ?_;simp only[Act.put];refine tkH 16 (v:=.agg #[.string ⟨(Bf s.data.toList tk.fr tk.to).toArray⟩,vI tk.fr,zN]) rfl (λW ⟨e1,e2,e3⟩=>by go_simp) hSd ?_;simp only[Act.put];refine gE (rs:=[17]) kR sM ?_;refine yA rfl (λK hK=>?_) zA;go_simp;have GZ:=zwA wd (.cells #[.string ⟨#[]⟩,vI 0,zN] 48) none;refine hK.out _ _ ⟨cell_kept hSd.1 GZ sM,cell_kept hSd.2.1 GZ sM,cell_kept hSd.2.2 GZ sM⟩ (λ_=>?_);clear hK K;refine gE (rs:=[18]) kR sM ?_;refine yA rfl (λK hK=>?_) zA;go_simp;have GB:=zwA wd (.cells #[.string ⟨(Bf s.data.toList tk.fr tk.to).toArray⟩,vI tk.fr,zN] 48) none;have NB:=Ac wd (.cells #[.string ⟨(Bf s.data.toList tk.fr tk.to).toArray⟩,vI tk.fr,zN] 48);refine hK.out _ _ ⟨cell_kept hSd.1 GB sM,cell_kept hSd.2.1 GB sM,cell_kept hSd.2.2 GB sM⟩ (λ_=>?_);clear hK K;obtain⟨w3,hw3⟩:∃w3,wd.alloc (.cells #[.string ⟨(Bf s.data.toList tk.fr tk.to).toArray⟩,vI tk.fr,zN] 48)=w3:=⟨_,rfl⟩;obtain⟨nb,hnb⟩:∃nb,wd.heap.size=nb:=⟨_,rfl⟩;rw[hw3]at GB NB;rw[hnb]at NB;rw[hw3,hnb];have hz3:w2.heap.size<=nb:=(by rw[<-hnb];exact GD.size);have G3:=Ab GD GB;have R3:=bV (R2.o.grown G3);have B3:Hid (BsAt w3 w.heap.size u3 E):=bV ⟨A6 B2.o.1 G3,λe he=>A6 (B2.o.2 e he) G3⟩;have G3:=bV (Ab G2.o G3);have N3:=bV NB;have hz2':w.heap.size<=w2.heap.size:=G2.o.size;have GY0:=bV (Ab GD GB);clear GB NB hw3 hnb GD GZ hSd R3 B3 G3;refine iE kR ⟨rfl,?_⟩ _;go_wp2_with fail;go_loopg[7] body'.length (λm jv wy=>∃(j:Nat) (uv:Value),jv=vI j/\j+m=body'.length/\Hid (wy.heap[nb]?=some (.cells #[.string ⟨(Bf s.data.toList tk.fr tk.to).toArray⟩,vI tk.fr,uv] 48 (0,0)))/\Hid (wy.ownsRow w2.heap.size 3 1 uv (Ir m' (body'.take j)).length ((Ir m' (body'.take j)).map λf:Nat=>vI f))/\(Ir m' (body'.take j)).length<=j/\Hid (w2.grownBy wy none))
    case atStart=>exact⟨0,zN,rfl,oM,N3,bV (mD _ _ _ _),by simp[Ir],GY0⟩
    case round=>
     obtain⟨j,uv,rfl,hjm,NY,UY,hUj,GY⟩:=hrel;have RY:=bV (R2.o.grown GY.o);obtain⟨_,c1,_,_,_⟩:=RY.o.cells;obtain⟨U,hU⟩:∃U,Ir m' (body'.take j)=U:=⟨_,rfl⟩;rw[hU]at UY hUj;have HU:=bV hU;clear hU;rcases jD (show j<=body'.length by omega)with he|hlt2
     ·have hjl:¬(j:Int)<(body'.length:Int):=oM;have eU:U=m'.useS:=by
       rw[<-HU.o,he,List.take_length];exact zew HLX.o HT.o HMB.o
      rw[eU]at UY;obtain⟨pl,cl,rfl⟩:∃p c,u3=.slice p E.length c:=by
       rcases B2.o.1.2 with⟨e1,e2⟩|⟨g2,cap2,_,e1,_⟩
       ·exact⟨_,_,by rw[e1,e2]⟩
       ·exact⟨_,_,e1⟩
      obtain⟨pv,cv,rfl⟩:∃p c,uv=.slice p m'.useS.length c:=by
       rcases UY.o.2 with⟨e1,e2⟩|⟨g2,cap2,_,e1,_⟩
       ·exact⟨_,_,by rw[e1,e2]⟩
       ·exact⟨_,_,e1⟩
      have GA:=zwA wr (.cells #[.string ⟨(Bf s.data.toList tk.fr tk.to).toArray⟩,vI tk.fr,.slice pv m'.useS.length cv] 48) none;have NA:=Ac wr (.cells #[.string ⟨(Bf s.data.toList tk.fr tk.to).toArray⟩,vI tk.fr,.slice pv m'.useS.length cv] 48);have GY2:=Ab GY.o GA;have BA:BsAt (wr.alloc (.cells #[.string ⟨(Bf s.data.toList tk.fr tk.to).toArray⟩,vI tk.fr,.slice pv m'.useS.length cv] 48)) w.heap.size (.slice pl E.length cl) E:=⟨A6 B2.o.1 GY2,λe he=>A6 (B2.o.2 e he) GY2⟩;have UA:=A6 UY.o GA;have GW:=bV (Ab G2.o GY2);have UA:=bV (Jf UA);have BA:=bV BA;have NA:=bV (jE NA);obtain⟨y0,y1,y2⟩:=Eh NY.o;have hmx2:E.length+1<=maxLen:=(by unfold maxLen;omega);have HZW:=bV GW.o.size;clear GA GY2 eU HU NY UY GY RY N3 GY0;go_wp2_with (at_builtin;refine wpList_append_lies _ rfl _ _ 45 rfl w.heap.size 48 i0 (.agg #[.string ⟨#[]⟩,vI 0,zN]) 3 48 underlying45 hi0 hz0 hz1 hz2 rfl dZ (.slice pl E.length cl) E.length (B9 E) rfl BA.o.1 (aD wr.heap.size 0) 1 1 [.string ⟨(Bf s.data.toList tk.fr tk.to).toArray⟩,vI tk.fr,.slice pv m'.useS.length cv] rfl rfl NA.o (by intro u hu;simp at hu;rcases hu with rfl|rfl|rfl<;>rfl) dZ hmx2 oM HZW.o _ rfl ?_;intro g7 cap7 w7 hown7 hgrow7 _ _;have O7:=bV hown7;have G7:=bV hgrow7;clear hown7 hgrow7);go_roundg (body'.length-(i+1))
      case measure=>omega
      case rel=>
       refine⟨i+1,E++[(m',.slice pv m'.useS.length cv)],by push_cast;rfl,oM,bV (by rw[vB];exact HE2.o),by simp;omega,bV ⟨?_,λe he=>?_⟩,bV (zen GW.o BA.o.1 G7.o)⟩
       ·rw[M9,eA,HNM.o.1,HNM.o.2];exact O7.o
       ·rcases zmA.1 he with he|he
        ·exact Ag (BA.o.2 e he) λg c hc=>Dv BA.o.1 G7.o hc dZ
        ·simp at he;subst he;exact Ag UA.o λg c hc=>Dv BA.o.1 G7.o hc dZ
     ·have hjl:(j:Int)<(body'.length:Int):=oM;obtain⟨tj,htj⟩:∃tj,body'[j]?=some tj:=⟨_,fA hlt2⟩;have hjx:=Ds HLX.o htj;have hus:=HUS.o tj.fr;rw[hjx]at hus;have htj2:Ir m' (body'.take (j+1))=U++(if tj.fr∈m'.useS then[tj.fr]else[]):=by
       rw[List.take_add_one,htj,Ir,List.filter_append,vB]
       have:=HU.o;unfold Ir at this;rw[this];congr 1;by_cases h:tj.fr∈m'.useS<;>simp[h]
      obtain⟨ub,hub⟩:∃ub,Y7 N j=ub:=⟨_,rfl⟩;have UD:=bV (zh4 RY.o j);rw[hub]at hus UD;have HTJ:=bV htj;clear hub hjx htj HU;by_cases hk:ub=(k:Int)
      ·rw[mA (hus.1 hk)]at htj2;have HJ2:=bV htj2;subst hk;clear hus htj2;go_wp2_with fail;refine UD.o.mono ?_;rintro e4 w4 ⟨rfl,hg4⟩;have N4:=bV (zbG hg4 NY.o);have U4:=bV (A6 UY.o hg4);have G4:=bV (Ab GY.o hg4);have R4:=bV (R2.o.grown G4.o);obtain⟨pu,cu,rfl⟩:∃p c,uv=.slice p U.length c:=by
        rcases UY.o.2 with⟨e1,e2⟩|⟨g2,cap2,_,e1,_⟩
        ·exact⟨_,_,by rw[e1,e2]⟩
        ·exact⟨_,_,e1⟩
       clear hg4 UD c1 NY UY GY RY;obtain⟨-,htc⟩:=Gm R4.o.toks;obtain⟨gt',_,e,-,-,k2⟩:=htc j tj HTJ.o;cases e;obtain⟨_,c1,_,_,_⟩:=R4.o.cells;obtain⟨_,_,y2⟩:=Eh N4.o;go_upto_region 13 with fail;have hbt4:bt<w4.heap.size:=(zgE.1 R4.o.tree).1;have hgt4:gt<w2.heap.size:=(R2.o.toks.lt gt rfl).2;have hbt2:bt<w2.heap.size:=(zgE.1 R2.o.tree).1;have CL:Hid (∀W:World,w2.grownBy W none->W.cell? (aD bt 1)=some (sL gt body'.length ct)/\W.cell? (aD gt (j*3+2))=some (vI tj.fr)):=bV λW hW=>by
        obtain⟨-,htc⟩:=Gm (R2.o.grown hW).toks;obtain⟨_,_,e,-,-,k2⟩:=htc j tj HTJ.o;cases e;exact⟨(R2.o.grown hW).cells.2.1,k2⟩
       refine Er (λW=>W.cell? (aD bt 1)=some (sL gt body'.length ct)/\W.cell? (aD gt (j*3+2))=some (vI tj.fr)) hmx (CL.o _ (Ad G4.o)) ?_;intro hSd;have GD:w4.grownBy w4.drew none:=Ad (Aa w4);obtain⟨wd,hwd⟩:∃wd,w4.drew=wd:=⟨_,rfl⟩;rw[hwd]at hSd GD;rw[hwd];clear hwd c1 k2 y2;have ND:=bV (zbG GD N4.o);have UDd:=bV (A6 U4.o GD);have GDD:=bV (Ab G4.o GD);clear GD N4 U4 G4 R4;refine tkH 0 (v:=.pointer (some (aD nb 2))) rfl (λW ⟨e1,e2⟩=>by go_simp) hSd ?_;simp only[Act.put];refine tkH 2 (v:=pT bt) rfl (λW ⟨e1,e2⟩=>by go_simp) hSd ?_;simp only[Act.put];refine tkH 3 (v:=pT bt) rfl (λW ⟨e1,e2⟩=>by go_simp) hSd ?_;simp only[Act.put];refine tkH 4 (v:=.pointer (some (aD bt 1))) rfl (λW ⟨e1,e2⟩=>by go_simp) hSd ?_;simp only[Act.put];refine tkH 5 (v:=sL gt body'.length ct) rfl (λW ⟨e1,e2⟩=>by go_simp) hSd ?_;simp only[Act.put];refine tkH 6 (v:=vI j) rfl (λW ⟨e1,e2⟩=>by go_simp) hSd ?_;simp only[Act.put];refine tkH 7 (v:=.pointer (some (aD gt (j*3)))) rfl (λW ⟨e1,e2⟩=>by go_simp) hSd ?_;simp only[Act.put];refine tkH 8 (v:=.pointer (some (aD gt (j*3+2)))) rfl (λW ⟨e1,e2⟩=>by go_simp) hSd ?_;simp only[Act.put];refine tkH 9 (v:=vI tj.fr) rfl (λW ⟨e1,e2⟩=>by go_simp) hSd ?_;simp only[Act.put];obtain⟨-,-,y2⟩:=Eh ND.o;have y2':(wd.alloc (.cells #[vI tj.fr] 3)).cell? (aD nb 2)=some (.slice pu U.length cu):=(Eh (((zwA wd (.cells #[vI tj.fr] 3) none).block nb (zgE.1 ND.o).1 sM).trans ND.o)).2.2;refine gE (rs:=[1,10]) kR sM ?_;refine yA rfl (λK hK=>?_) (yA rfl (λK hK=>?_) zA)
       case' _=>
        go_simp;refine hK.out _ _ hSd (λ_=>?_);clear hK K;refine gE (rs:=[10]) kR sM ?_;refine yA rfl (λK hK=>?_) zA;go_simp;refine hK.out _ _ (CL.o _ (Ai GDD.o _)) (λ_=>?_);clear hK K
       rotate_left
       case' _=>
        go_simp;refine hK.out _ _ (CL.o _ (Ai GDD.o _)) (λ_=>?_);clear hK K;refine gE (rs:=[1]) kR sM ?_;refine yA rfl (λK hK=>?_) zA;go_simp;refine hK.out _ _ (CL.o _ (Ai GDD.o _)) (λ_=>?_);clear hK K
       all_goals
        clear y2 y2';have GA:=zwA wd (.cells #[vI tj.fr] 3) none;have NA:(wd.alloc (.cells #[vI tj.fr] 3)).heap[wd.heap.size]?=some (.cells #[vI tj.fr] 3):=Ac wd _;have NDA:=zbG GA ND.o;have UA:=bV (A6 UDd.o GA);have GAA:=bV (Ab GDD.o GA);obtain⟨wa,hwa⟩:∃wa,wd.alloc (.cells #[vI tj.fr] 3)=wa:=⟨_,rfl⟩;rw[hwa]at NA NDA UA GAA;rw[hwa];have hzw:=GAA.o.size;have NDA:=bV NDA;have CA:=CL.o _ GAA.o;clear hwa GA hSd;refine gE (rs:=[11]) kR sM ?_;refine yA rfl (λK hK=>?_) zA;rw[mA (by rfl)];refine wp_append_lies _ _ _ 33 rfl w2.heap.size 3 j0 (vI 0) 1 8 underlying33 hj0 hy0 hy1 hy2 rfl dZ (.slice pu U.length cu) U.length (U.map λf:Nat=>vI f) rfl UA.o (aD wd.heap.size 0) 1 1 [vI tj.fr] rfl rfl (jE NA) (by intro u hu;simp at hu;subst hu;rfl) dZ (by unfold maxLen;omega) oM hzw _ rfl ?_;intro g5 cap5 w5 hown5 hgrow5 _ _;have G5:w2.grownBy w5 none:=⟨hgrow5.os.trans GAA.o.os,hgrow5.tape.trans GAA.o.tape,hgrow5.output.trans GAA.o.output,kB GAA.o.size hgrow5.size,λq hq _=>(hgrow5.block q (aB hq GAA.o.size) (λe=>by have:=(UA.o.lt q e.symm).1;omega)).trans (GAA.o.block q hq sM)⟩;have N5:=Dv UA.o hgrow5 NDA.o dZ;have O5:=bV hown5;have C5:=CL.o _ G5;have y5:=(Eh N5).2.2;have f5:w5.frozen? (aD nb 2)=false:=eB _ _ _ _ _ N5;have N6:=Bo (j:=2) N5 (sL g5 (U.length+1) cap5);have G6:w2.grownBy (w5.setCell (aD nb 2) (sL g5 (U.length+1) cap5)) none:=⟨G5.os,G5.tape,G5.output,by simpa using G5.size,λq hq _=>(aA w5 (aD nb 2) q _ (by simp;omega)).trans (G5.block q hq sM)⟩;have C6:=CL.o _ G6;have O6:=Ag O5.o λg' c hc=>(aA w5 (aD nb 2) g' (sL g5 (U.length+1) cap5) (by rintro rfl;rw[N5]at hc;cases hc)).trans hc;have O6:=bV O6;have G6:=bV G6;have N6:=bV N6;clear hgrow5 hown5 G5 N5;refine hK.out _ _ C5 (λ_=>?_);clear hK K;refine gE (rs:=[12]) kR sM ?_;refine yA rfl (λK hK=>?_) zA;go_simp;refine hK.out _ _ C5 (λ_=>?_);clear hK K;refine gE (rs:=[13]) kR sM ?_;refine yA rfl (λK hK=>?_) zA;go_simp;refine hK.out _ _ C6 (λ_=>?_);clear hK K C5 C6 CA y5 f5;refine iE kR ⟨rfl,?_⟩ _;obtain⟨w6,hw6⟩:∃w6,w5.setCell (aD nb 2) (sL g5 (U.length+1) cap5)=w6:=⟨_,rfl⟩;rw[hw6]at O6 G6 N6;rw[hw6];clear hw6;go_wp2_with fail;go_roundg (body'.length-(j+1))
        case measure=>omega
        case rel=>
         refine⟨j+1,_,by push_cast;rfl,oM,N6,?_,?_,G6⟩
         ·rw[HJ2.o,eA,vB];exact O6
         ·rw[HJ2.o,eA];simp;omega
      ·rw[jA (λh=>hk (hus.2 h)),List.append_nil]at htj2;have HJ2:=bV htj2;clear hus htj2;go_wp2_with fail;refine UD.o.mono ?_;rintro e4 w4 ⟨rfl,hg4⟩;have N4:=bV (zbG hg4 NY.o);have U4:Hid (w4.ownsRow w2.heap.size 3 1 uv (Ir m' (body'.take (j+1))).length ((Ir m' (body'.take (j+1))).map λf:Nat=>vI f)):=(by rw[HJ2.o];exact bV (A6 UY.o hg4));have G4:=bV (Ab GY.o hg4);have HL4:Hid ((Ir m' (body'.take (j+1))).length<=j+1):=bV (by rw[HJ2.o];omega);clear hg4 UD;go_wp2_with fail;go_roundg (body'.length-(j+1))
       case measure=>omega
       case rel=>exact⟨j+1,uv,by push_cast;rfl,oM,N4,U4,HL4.o,G4⟩
end
section
open Go.Proofs.Tryz
open Go.RowKit
theorem zh6(a:List UInt8)(c:Nat):Value.string (({data:=a.toArray}:ByteArray) ++ {data:=#[97+UInt8.ofNat c]})=ug (a++[UInt8.ofNat (97+c)]):=by
 have e:(97+UInt8.ofNat c:UInt8)=UInt8.ofNat (97+c):=by simp[UInt8.ofNat_add]
 rw[e];exact Iz a [UInt8.ofNat (97+c)]
theorem zh7(k:Nat)(l:k<9223372036854775808)(w:World):Calls prog 127 #[vI k] w λe q=>(∃f,e=.returned (ug f)/\f.length<=10)/\w.grownBy q none:=by
 go_in;go_wp2_with fail;go_loopg[0,3,4] 9 (λn o p m wr=>∃(x i:Nat) (a:List UInt8),o=vI x/\p=ug a/\m=vI i/\i+n=9/\x<9223372036854775808/\a.length<=i+1/\Hid (w.grownBy wr none))
 case atStart=>exact⟨k,0,[35],rfl,rfl,rfl,oM,l,sM,bV (Aa _)⟩
 case round=>
  obtain⟨x,i,a,rfl,rfl,rfl,t,y,d,c⟩:=hrel;rcases jD (show i<=9 by omega)with rfl|v
  ·have b:=bV d;go_wp2_with fail;go_ret;exact⟨⟨a,rfl,b.o⟩,c.o⟩
  ·have s:(i:Int)<9:=oM;have j:=Lc wr (UInt8.ofNat (97+x % 16));have h:((UInt8.ofNat (97+x % 16)).toNat:Int)=97+(x:Int) % 16:=by
    simp[UInt8.toNat_ofNat];omega
   rw[h]at j;have has:a.toArray.size<=10:=(by simp;omega);have r:a.length<=10:=oM;have b:=bV d;have g:Hid (w.grownBy (wr.alloc (.cells #[vU (97+(x:Int) % 16)] 5)) none):=Ai c.o _;go_wp2_with fail;go_roundg (9-(i+1))
   case measure=>omega
   case rel=>exact⟨x / 16,i+1,a++[UInt8.ofNat (97+x % 16)],by go_num,zh6 _ _,by push_cast;rfl,oM,oM,by have:=b.o;simp;omega,g⟩
end
section
open Go.RowKit
variable{P:Program}{o:Oper}{a:Act}{Q:Exit->Act->World->Prop}
theorem Tz(w:World)(t s:TypeId)(base:Nat)(e:TypeId)(i:TypeInfo)(z:Value)(size B:Nat)(A:P.underlying t=some (.slice e))(hi:P.info? e=some i)(F:i.zero=some z)
  (M:i.size=size) (J:i.bytes=B) (a0:z.cells.size=size) (Z:0<size)
  (v:Value) (n:Nat) (l:List Value) (q:w.ownsRow base e size v n l)
  (h:Addr) (m c:Nat) (b:List Value) (x:b.length=m*size) (y:∀j u,b[j]?=some u->w.cell? (h.add j)=some u) (H:∀u∈b,u.oneCell'=true)
  (X:0<m) (I:n+m<=maxLen) (D:(n+m)*B<=140737488355328) (U:base<=w.heap.size) :
  ∃g cap f,(Builtin.append_ #[t,t] s #[v,.slice (some h) m c]).run P w=.ok (sL g (n+m) cap) f /\
   f.ownsRow base e size (sL g (n+m) cap) (n+m) (l++b)/\((v.ownBlock=some g/\w.grownBy f (some g))\/(g=w.heap.size/\w.grownBy f none))/\g<f.heap.size:=by
 obtain⟨g,cap,f,d,O,R,h4,S⟩:=run_append_lies (P:=P) w t s base e i z size B A hi F M J a0 Z v n l q h m c b x y H X I D U _ rfl;refine⟨g,cap,f,d,O,?_,S⟩;have a5:n+m<=9223372036854775807:=by simp only[maxLen]at I;omega
 subst M J;rcases q.2 with⟨rfl,rfl⟩|⟨p,C,G,rfl,a1,W,a4,a2,a3,a6⟩
 ·have hx:l=[]:=List.length_eq_zero_iff.1 (by have:=q.1;omega);subst hx;have r:=run_append_nil (P:=P) w t s e i z A hi F h m c b x y oM oM (by have T:=D;simp only[Nat.zero_add]at T;omega);rw[r]at d;injection d with e1 e2;injection e1 with e3;subst e2;exact .inr ⟨by simpa using e3.symm,⟨rfl,rfl,rfl,sM,λk E _=>heap_alloc_old w.drew _ E⟩⟩
 ·by_cases L:n+m<=C
  ·have V:n*i.size+b.length<=G.size:=by
    have:=fD i.size L;rw[Nat.add_mul]at this;omega
   have r:=run_append_room (P:=P) w t s e i A hi p n C G W h m c b x y H L V;rw[r]at d;injection d with e1 e2;injection e1 with e3;have N:p=g:=(by simpa using e3);subst N;exact .inl ⟨rfl,R⟩
  ·have Y:∀j u,l[j]?=some u->w.cell? (((aD p 0):Addr).add j)=some u:=q.cells (g:=p) rfl;have r:=run_append_grow (P:=P) w t s e i z A hi F (aD p 0) n C l q.1 Y h m c b x y oM oM (growslice_fits oM D);rw[r]at d;injection d with e1 e2;injection e1 with e3;subst e2;exact .inr ⟨by simpa using e3.symm,⟨rfl,rfl,rfl,sM,λk E _=>heap_alloc_old w.drew _ E⟩⟩
theorem Jj(w:World){K:Act->World->Prop}(s x:Operand)(t:TypeId)
  (H:o.op=.call {callee:=.builtin .append,args:=#[s,x],argTypes:=#[t,t]})
  (base:Nat) (e:TypeId) (i:TypeInfo) (z:Value) (size k:Nat) (O:P.underlying t=some (.slice e)) (hi:P.info? e=some i) (S:i.zero=some z)
  (M:i.size=size) (C:i.bytes=k) (T:z.cells.size=size) (N:0<size)
  (v:Value) (n:Nat) (l:List Value) (L:a.eval s=v) (I:w.ownsRow base e size v n l)
  (f:Addr) (m c:Nat) (d:List Value) (R:a.eval x=.slice (some f) m c) (E:d.length=m*size) (G:∀j u,d[j]?=some u->w.cell? (f.add j)=some u) (p:∀u∈d,u.oneCell'=true)
  (F:0<m) (A:n+m<=maxLen) (D:(n+m)*k<=140737488355328) (B:base<=w.heap.size)
  (h:∀g cap b,b.ownsRow base e size (sL g (n+m) cap) (n+m) (l++d)->((v.ownBlock=some g/\w.grownBy b (some g))\/(g=w.heap.size/\w.grownBy b none))->g<b.heap.size->K (a.put o.dst (sL g (n+m) cap)) b):o.wp P a w K Q:=by
 obtain⟨g,cap,b,J,q,r,y⟩:=Tz (P:=P) w t o.type base e i z size k O hi S M C T N v n l I f m c d E G p F A D B;unfold Oper.wp execOp;simp only[H,resolve,invoke,builtin,Sem.run_bind,Sem.run_pure,Result.andThen_ok,List.map_toArray,List.map_cons,List.map_nil,L,R,J];exact h g cap b q r y
theorem Dd(w:World){p:Array Oper}{rest:List Oper}(F:o.guard=none)(s x:Operand)(t:TypeId)
  (J:o.op=.call {callee:=.builtin .append,args:=#[s,x],argTypes:=#[t,t]})
  (base:Nat) (e:TypeId) (i:TypeInfo) (z:Value) (size k:Nat) (R:P.underlying t=some (.slice e)) (hi:P.info? e=some i) (T:i.zero=some z)
  (N:i.size=size) (D:i.bytes=k) (U:z.cells.size=size) (O:0<size)
  (v:Value) (n:Nat) (l:List Value) (M:a.eval s=v) (L:w.ownsRow base e size v n l)
  (f:Addr) (m c:Nat) (d:List Value) (S:a.eval x=.slice (some f) m c) (G:d.length=m*size) (I:∀j u,d[j]?=some u->w.cell? (f.add j)=some u) (q:∀u∈d,u.oneCell'=true)
  (H:0<m) (B:n+m<=maxLen) (E:(n+m)*k<=140737488355328) (C:base<=w.heap.size)
  (h:∀g cap b,b.ownsRow base e size (sL g (n+m) cap) (n+m) (l++d)->((v.ownBlock=some g/\w.grownBy b (some g))\/(g=w.heap.size/\w.grownBy b none))->g<b.heap.size->wpList P p Q rest (a.put o.dst (sL g (n+m) cap)) b):wpList P p Q (o::rest) a w:=
 wpList_plain F λ_ hK=>Jj w s x t J base e i z size k R hi T N D U O v n l M L f m c d S G I q H B E C λg cap b r y A=>hK _ _ (h g cap b r y A)
end
section
open Go.Proofs.Tryz
open Go.RowKit
variable{w wr wa w9:World}{v tx bn bm nu nm l nu' nm' lv:Value}{m:Int}{bw count C g9 q n9 cap9 K:Nat}{NU MV add:List Value}
def RecI(w:World)(v:Value)(m:Int):Prop:=(∃c,v=.slice none 0 c)\/∃g n c,v=.slice (some ⟨g,0,none⟩) n c/\n<=maxLen/\(∃a,w.heap[g]?=some (.cells a 3 (0,0)))/\∀k,k<n->w.cell? ⟨g,k,none⟩=some (.int .i64 m)
theorem RecI.keep{d:World}(h:RecI w v m)(b:∀ {g:Nat} {c:Array Value},w.heap[g]?=some (.cells c 3 (0,0))->d.heap[g]?=w.heap[g]?):RecI d v m:=by
 rcases h with h|⟨g,n,c,rfl,j,⟨e,a⟩,f⟩
 ·exact .inl h
 ·exact .inr ⟨g,n,c,rfl,j,⟨e,(b a).trans a⟩,λk i=>(vD (b a)).trans (f k i)⟩
theorem RecI.of_row{B n:Nat}(h:RowV w B 3 v (List.replicate n (vI m))):RecI w v m:=by
 rcases h.2 with⟨a,_⟩|⟨g,c,j,a,_,d,e,f,_⟩
 ·exact .inl ⟨0,a⟩
 ·refine .inr ⟨g,_,c,a,kB e f,⟨_,d⟩,λk i=>?_⟩;have b:=h;unfold RowV at b;rw[a]at b;rw[b.cellAt k oM,kD,mA (by simpa using i)]
def LwC(w:World)(bw:Nat)(tx bn bm nu nm:Value)(count:Nat):Prop:=w.heap[bw]?=some (.cells #[tx,bn,bm,nu,nm,.int .i64 count] 61 (0,0))
theorem LwC.cells(h:LwC w bw tx bn bm nu nm count):w.cell? (aD bw 0)=some tx/\w.cell? (aD bw 1)=some bn/\w.cell? (aD bw 2)=some bm/\w.cell? (aD bw 3)=some nu/\w.cell? (aD bw 4)=some nm/\w.cell? (aD bw 5)=some (vI count):=by
 refine⟨?_,?_,?_,?_,?_,?_⟩<;>(rw[mB _ _ _ _ _ _ h];rfl)
structure InF(w w':World)(bw:Nat)(nu nm l:Value):Prop where
 os:w'.os=w.os
 tape:w'.tape=w.tape
 output:w'.output=w.output
 size:w.heap.size<=w'.heap.size
 block:∀ {k:Nat},k<w.heap.size->k≠bw->some k≠nu.ownBlock->some k≠nm.ownBlock->some k≠l.ownBlock->w'.heap[k]?=w.heap[k]?
structure InQ(w w':World)(bw:Nat)(tx bn bm nu nm l:Value)(NU MV:List Value)(c:Nat)(nu' nm':Value)(add:List Value)(q:Nat):Prop where
 frame:InF w w' bw nu nm l
 lw:LwC w' bw tx bn bm nu' nm' c
 nums:RowV w' 0 33 nu' (NU++add)
 marks:RowV w' 0 3 nm' (MV++List.replicate q (.int .i64 (-(c:Int))))
 recs:∀v∈add,RecI w' v (-(c:Int))/\∀g,v.ownBlock=some g->(l.ownBlock=some g\/w.heap.size<=g)/\nm'.ownBlock≠some g
 nu':∀g,nu'.ownBlock=some g->nu.ownBlock=some g\/w.heap.size<=g
 nm':∀g,nm'.ownBlock=some g->nm.ownBlock=some g\/w.heap.size<=g
abbrev InP(w a:World)(bw:Nat)(tx bn bm nu nm l:Value)(NU MV:List Value)(c:Nat)(nu' nm':Value)(add:List Value):Prop:=InQ w a bw tx bn bm nu nm l NU MV c nu' nm' add add.length
theorem InQ.lw9(P:InQ w wr bw tx bn bm nu nm l NU MV C nu' nm' add q)(a:wr.grownBy wa none)
  (f:(nu'.ownBlock=some g9/\wa.grownBy w9 (some g9))\/(g9=wa.heap.size/\wa.grownBy w9 none)):LwC w9 bw tx bn bm nu' nm' C:=by
 have g:=a.size;have d:=(zgE.1 P.lw).1;have e:w9.heap[bw]?=wr.heap[bw]? :=by
  rcases f with⟨c,b⟩|⟨c,b⟩
  ·exact(b.block bw oM (λe=>by cases e;exact P.nums.ne dZ P.lw c.symm)).trans (a.block bw d sM)
  ·exact(b.block bw oM sM).trans (a.block bw d sM)
 exact e.trans P.lw
theorem InQ.lw10(P:InQ w wr bw tx bn bm nu nm l NU MV C nu' nm' add q)(a:wr.grownBy wa none)
  (f:(nm'.ownBlock=some g9/\wa.grownBy w9 (some g9))\/(g9=wa.heap.size/\wa.grownBy w9 none)):LwC w9 bw tx bn bm nu' nm' C:=by
 have g:=a.size;have d:=(zgE.1 P.lw).1;have e:w9.heap[bw]?=wr.heap[bw]? :=by
  rcases f with⟨c,b⟩|⟨c,b⟩
  ·exact(b.block bw oM (λe=>by cases e;exact P.marks.ne dZ P.lw c.symm)).trans (a.block bw d sM)
  ·exact(b.block bw oM sM).trans (a.block bw d sM)
 exact e.trans P.lw
theorem InQ.record(P:InQ w wr bw tx bn bm nu nm l NU MV C nu' nm' add q)(y:RowV wr 0 3 lv (List.replicate K (vI (-(C:Int)))))
  (O:∀g,lv.ownBlock=some g->(l.ownBlock=some g\/w.heap.size<=g)/\nm'.ownBlock≠some g) (i:wr.grownBy wa none)
  (n:(nu'.ownBlock=some g9/\wa.grownBy w9 (some g9))\/(g9=wa.heap.size/\wa.grownBy w9 none)) (B:RowV w9 0 33 (sL g9 n9 cap9) (NU++add++[lv])) :
  InQ w (w9.setCell (aD bw 3) (sL g9 n9 cap9)) bw tx bn bm nu nm l NU MV C (sL g9 n9 cap9) nm' (add++[lv]) q/\RowV (w9.setCell (aD bw 3) (sL g9 n9 cap9)) 0 3 lv (List.replicate K (vI (-(C:Int)))):=by
 have J:=P.frame.size;have I:=i.size;have stay:∀k,k<wr.heap.size->nu'.ownBlock≠some k->w9.heap[k]?=wr.heap[k]? :=λk A G=>by
  rcases n with⟨e,a⟩|⟨e,a⟩
  ·exact(a.block k oM (λf=>by cases f;exact G e)).trans (i.block k A sM)
  ·exact(a.block k oM sM).trans (i.block k A sM)
 have H:wr.heap.size<=w9.heap.size:=by rcases n with⟨_,a⟩|⟨_,a⟩<;>(have:=a.size;omega)
 have typ:∀ {k:Nat} {c:Array Value} {d:TypeId},d≠33->wr.heap[k]?=some (.cells c d (0,0))->w9.heap[k]?=wr.heap[k]? :=λ{k c d} p b=>stay k (zgE.1 b).1 (λf=>P.nums.ne p b f.symm);have r:w9.heap[bw]?=some (.cells #[tx,bn,bm,nu',nm',vI C] 61 (0,0)):=(typ dZ P.lw).trans P.lw;have D:∀ {k:Nat} {c:Array Value} {d:TypeId},d≠61->w9.heap[k]?=some (.cells c d (0,0))->(w9.setCell (aD bw 3) (sL g9 n9 cap9)).heap[k]?=w9.heap[k]? :=λ{k c d} p b=>aA w9 (aD bw 3) k _ (by rintro rfl;rw[r]at b;cases b;exact p rfl);have o:∀ {k:Nat} {c:Array Value} {d:TypeId},d≠33->d≠61->wr.heap[k]?=some (.cells c d (0,0))->(w9.setCell (aD bw 3) (sL g9 n9 cap9)).heap[k]?=wr.heap[k]? :=λ{k c d} e a b=>by
  have:=typ e b;exact(D a (this.trans b)).trans this
 have fr:w9.os=wr.os/\w9.tape=wr.tape/\w9.output=wr.output:=by rcases n with⟨_,a⟩|⟨_,a⟩<;>exact⟨a.os.trans i.os,a.tape.trans i.tape,a.output.trans i.output⟩
 have z:RowV (w9.setCell (aD bw 3) (sL g9 n9 cap9)) 0 3 lv (List.replicate K (vI (-(C:Int)))):=y.kept λg h=>by
  obtain⟨c,b⟩:=y.blk h;exact o dZ dZ b
 refine⟨⟨⟨fr.1.trans P.frame.os,fr.2.1.trans P.frame.tape,fr.2.2.trans P.frame.output,by simp;omega,λ{k} e a x E F=>?_⟩,?_,?_,P.marks.kept λg h=>?_,λv j=>?_,λg h=>?_,P.nm'⟩,z⟩
 ·refine(aA w9 (aD bw 3) k _ (by simpa using a)).trans ((stay k oM (λf=>?_)).trans (P.frame.block e a x E F));rcases P.nu' k f with t|t
  ·exact x t.symm
  ·omega
 ·exact Bo r _
 ·rw[<-wA];exact B.kept λg h=>by
   obtain⟨c,b⟩:=B.blk h;exact D dZ b
 ·obtain⟨c,b⟩:=P.marks.blk h;exact o dZ dZ b
 ·rcases zmA.1 j with j|j
  ·obtain⟨e,a⟩:=P.recs v j;exact⟨e.keep (λb=>o dZ dZ b),a⟩
  ·obtain rfl:=xB.1 j;exact⟨RecI.of_row z,O⟩
 ·have f:g9=g:=by simpa[Value.ownBlock]using h
  subst f;rcases n with⟨s,_⟩|⟨s,_⟩
  ·exact P.nu' g9 s
  ·exact .inr oM
theorem InQ.mark(P:InQ w wr bw tx bn bm nu nm l NU MV C nu' nm' add q)(p:RowV wr 0 3 lv (List.replicate K (vI (-(C:Int)))))
  (O:∀g,lv.ownBlock=some g->(l.ownBlock=some g\/w.heap.size<=g)/\nm'.ownBlock≠some g) (i:wr.grownBy wa none)
  (j:(nm'.ownBlock=some g9/\wa.grownBy w9 (some g9))\/(g9=wa.heap.size/\wa.grownBy w9 none)) (B:RowV w9 0 3 (sL g9 n9 cap9) (MV++List.replicate q (vI (-(C:Int)))++[vI (-(C:Int))])) :
  InQ w (w9.setCell (aD bw 4) (sL g9 n9 cap9)) bw tx bn bm nu nm l NU MV C nu' (sL g9 n9 cap9) add (q+1)/\RowV (w9.setCell (aD bw 4) (sL g9 n9 cap9)) 0 3 lv (List.replicate K (vI (-(C:Int))))/\∀g,lv.ownBlock=some g->(l.ownBlock=some g\/w.heap.size<=g)/\(sL g9 n9 cap9).ownBlock≠some g:=by
 have T:=P.frame.size;have S:=i.size;have stay:∀k,k<wr.heap.size->nm'.ownBlock≠some k->w9.heap[k]?=wr.heap[k]? :=λk n t=>by
  rcases j with⟨f,a⟩|⟨f,a⟩
  ·exact(a.block k oM (λe=>by cases e;exact t f)).trans (i.block k n sM)
  ·exact(a.block k oM sM).trans (i.block k n sM)
 have R:wr.heap.size<=w9.heap.size:=by rcases j with⟨_,a⟩|⟨_,a⟩<;>(have:=a.size;omega)
 have apart:∀g,g<wr.heap.size->nm'.ownBlock≠some g->(sL g9 n9 cap9).ownBlock≠some g:=λg b t e=>by
  have e:g9=g:=by simpa[Value.ownBlock]using e
  subst e;rcases j with⟨f,_⟩|⟨f,_⟩
  ·exact t f
  ·omega
 have x:w9.heap[bw]?=some (.cells #[tx,bn,bm,nu',nm',vI C] 61 (0,0)):=(stay bw (zgE.1 P.lw).1 (λe=>P.marks.ne dZ P.lw e.symm)).trans P.lw;have D:∀ {k:Nat} {c:Array Value} {h:TypeId},h≠61->w9.heap[k]?=some (.cells c h (0,0))->(w9.setCell (aD bw 4) (sL g9 n9 cap9)).heap[k]?=w9.heap[k]? :=λ{k c h} M d=>aA w9 (aD bw 4) k _ (by rintro rfl;rw[x]at d;cases d;exact M rfl);have o:∀ {k:Nat} {c:Array Value} {h:TypeId},nm'.ownBlock≠some k->h≠61->wr.heap[k]?=some (.cells c h (0,0))->(w9.setCell (aD bw 4) (sL g9 n9 cap9)).heap[k]?=wr.heap[k]? :=λ{k c h} f a d=>by
  have:=stay k (zgE.1 d).1 f;exact(D a (this.trans d)).trans this
 have fr:w9.os=wr.os/\w9.tape=wr.tape/\w9.output=wr.output:=by rcases j with⟨_,a⟩|⟨_,a⟩<;>exact⟨a.os.trans i.os,a.tape.trans i.tape,a.output.trans i.output⟩
 refine⟨⟨⟨fr.1.trans P.frame.os,fr.2.1.trans P.frame.tape,fr.2.2.trans P.frame.output,by simp;omega,λ{k} f a H A I=>?_⟩,Bo x _,P.nums.kept λg b=>?_,?_,λv N=>?_,P.nu',λg b=>?_⟩,p.kept λg b=>?_,λg b=>⟨(O g b).1,apart g (p.lt g b).2 (O g b).2⟩⟩
 ·refine(aA w9 (aD bw 4) k _ (by simpa using a)).trans ((stay k oM (λe=>?_)).trans (P.frame.block f a H A I));rcases P.nm' k e with z|z
  ·exact A z.symm
  ·omega
 ·obtain⟨c,d⟩:=P.nums.blk b;exact o (λe=>P.marks.ne dZ d e.symm) dZ d
 ·rw[List.replicate_succ',<-wA];exact B.kept λg b=>by
   obtain⟨c,d⟩:=B.blk b;exact D dZ d
 ·obtain⟨f,a⟩:=P.recs v N;rcases f with⟨c,rfl⟩|⟨g,Q,c,rfl,L,⟨E,r⟩,d⟩
  ·exact⟨.inl ⟨c,rfl⟩,λg b=>by simp[Value.ownBlock]at b⟩
  ·have s:=a g rfl;have e:=o s.2 dZ r;refine⟨.inr ⟨g,Q,c,rfl,L,⟨E,e.trans r⟩,λk n=>(vD e).trans (d k n)⟩,λG J=>?_⟩;have F:g=G:=(by simpa[Value.ownBlock]using J);subst F;exact⟨s.1,apart g (zgE.1 r).1 s.2⟩
 ·have e:g9=g:=by simpa[Value.ownBlock]using b
  subst e;rcases j with⟨y,_⟩|⟨y,_⟩
  ·exact P.nm' g9 y
  ·exact .inr oM
 ·obtain⟨c,d⟩:=p.blk b;exact o (O g b).2 dZ d
theorem InP.step{w wr wa f:World}{bw:Nat}{tx bn bm nu nm l nu' nm':Value}{NU MV add:List Value}{C K h B:Nat}{p:Option Addr}{r:Nat}(P:InP w wr bw tx bn bm nu nm l NU MV C nu' nm' add)(S:RowV wr 0 3 (.slice p K r) (List.replicate K (vI (-(C:Int)))))
  (O:∀g,(Value.slice p K r).ownBlock=some g->(l.ownBlock=some g\/w.heap.size<=g)/\nm'.ownBlock≠some g) (T:∀v∈add,∀q n c,v=.slice q n c->n<=K) (i:wr.grownBy wa none)
  (x:((Value.slice p K r).ownBlock=some h/\wa.grownBy f (some h))\/(h=wa.heap.size/\wa.grownBy f none)) (L:RowV f 0 3 (sL h (K+1) B) (List.replicate (K+1) (vI (-(C:Int))))) :
  InP w f bw tx bn bm nu nm l NU MV C nu' nm' add/\∀g,(sL h (K+1) B).ownBlock=some g->(l.ownBlock=some g\/w.heap.size<=g)/\nm'.ownBlock≠some g:=by
 have X:=P.frame.size;have W:=i.size;have H:∀g,nm'.ownBlock=some g->g<wr.heap.size:=λg d=>(P.marks.lt g d).2
 -- a block that lay there and is not the list's stays
 have stay:∀k,k<wr.heap.size->(Value.slice p K r).ownBlock≠some k->f.heap[k]?=wr.heap[k]? :=λk t I=>by
  rcases x with⟨j,b⟩|⟨j,b⟩
  ·exact(b.block k oM (λe=>by cases e;exact I j)).trans (i.block k t sM)
  ·exact(b.block k oM sM).trans (i.block k t sM)
 have V:wr.heap.size<=f.heap.size:=by rcases x with⟨_,b⟩|⟨_,b⟩<;>(have:=b.size;omega)
 have typ:∀ {k:Nat} {c:Array Value} {A:TypeId},A≠3->wr.heap[k]?=some (.cells c A (0,0))->f.heap[k]?=wr.heap[k]? :=λ{k c A} U o=>stay k (zgE.1 o).1 (λe=>S.ne U o e.symm);have fr:f.os=wr.os/\f.tape=wr.tape/\f.output=wr.output:=by rcases x with⟨_,b⟩|⟨_,b⟩<;>exact⟨b.os.trans i.os,b.tape.trans i.tape,b.output.trans i.output⟩
 refine⟨⟨⟨fr.1.trans P.frame.os,fr.2.1.trans P.frame.tape,fr.2.2.trans P.frame.output,oM,λ{k} j b Q R E=>(stay k oM (λe=>?_)).trans (P.frame.block j b Q R E)⟩,?_,P.nums.kept λg d=>?_,P.marks.kept λg d=>?_,λv M=>?_,P.nu',P.nm'⟩,λg d=>?_⟩
 ·rcases(O k e).1 with D|D
  ·exact E D.symm
  ·omega
 ·exact(typ dZ P.lw).trans P.lw
 ·obtain⟨c,o⟩:=P.nums.blk d;exact typ dZ o
 ·exact stay g (H g d) (λe=>(O g e).2 d)
 ·obtain⟨j,b⟩:=P.recs v M;refine⟨?_,b⟩;rcases j with j|⟨g,n,c,rfl,J,⟨N,F⟩,o⟩
  ·exact .inl j
  ·have d:=(zgE.1 F).1;by_cases G:(Value.slice p K r).ownBlock=some g/\h=g
   ·obtain⟨_,rfl⟩:=G;refine .inr ⟨h,n,c,rfl,J,L.blk rfl,λk t=>?_⟩;have I:=T _ M _ _ _ rfl;have z:=L;unfold RowV at z;rw[wD]at z;rw[z.cellAt k oM,kD,mA oM]
   ·have:f.heap[g]?=wr.heap[g]? :=by
     rcases x with⟨s,y⟩|⟨s,y⟩
     ·exact(y.block g oM (λe=>by cases e;exact G ⟨s,rfl⟩)).trans (i.block g d sM)
     ·exact(y.block g oM sM).trans (i.block g d sM)
    exact .inr ⟨g,n,c,rfl,J,⟨N,this.trans F⟩,λk t=>(vD this).trans (o k t)⟩
 ·have e:h=g:=by simpa[Value.ownBlock]using d
  subst e;rcases x with⟨s,_⟩|⟨s,_⟩
  ·exact O h s
  ·exact⟨.inr oM,λe=>by have:=H h e;omega⟩
theorem zkd{xs:List Value}(hw:LwC w bw tx bn bm nu nm count)(hn:RowV w 0 33 nu NU)(hm:RowV w 0 3 nm MV)(hl:RowV w 0 3 l xs)(hxs:xs.length<=1000)(hN:NU.length<=1000000000000)(hM:MV.length=NU.length)(hc:count<=1000000000000)(hap:∀g,l.ownBlock=some g->nm.ownBlock≠some g):
  Calls prog 126 #[pT bw,l] w λe w'=>e=.returned (.tuple #[])/\∃nu' nm' add,InP w w' bw tx bn bm nu nm l NU MV (count+1) nu' nm' add/\add.length=4:=by
 obtain⟨c0,c1,c2,c3,c4,c5⟩:=hw.cells;have f5:w.frozen? (aD bw 5)=false:=eB _ _ _ _ _ hw;obtain⟨pl,cl,rfl⟩:=hl.slice;have W1:LwC (w.setCell (aD bw 5) (vI ((count:Int)+1))) bw tx bn bm nu nm (count+1):=Bo hw _;have kp:∀ {g:Nat} {c:Array Value} {u:TypeId},u≠61->w.heap[g]?=some (.cells c u (0,0))->(w.setCell (aD bw 5) (vI ((count:Int)+1))).heap[g]?=some (.cells c u (0,0)):=λ{g c u} hu hc=>(aA w (aD bw 5) g _ (by rintro rfl;unfold LwC at hw;rw[hw]at hc;cases hc;exact hu rfl)).trans hc;have L1:RowV (w.setCell (aD bw 5) (vI ((count:Int)+1))) 0 3 (.slice pl xs.length cl) xs:=Ag hl λg c hc=>kp dZ hc;have N1:RowV (w.setCell (aD bw 5) (vI ((count:Int)+1))) 0 33 nu NU:=Ag hn λg c hc=>kp dZ hc;have M1:RowV (w.setCell (aD bw 5) (vI ((count:Int)+1))) 0 3 nm MV:=Ag hm λg c hc=>kp dZ hc;have F1:InF w (w.setCell (aD bw 5) (vI ((count:Int)+1))) bw nu nm (.slice pl xs.length cl):=⟨rfl,rfl,rfl,sM,λ{k} _ h1 _ _ _=>aA w (aD bw 5) k _ (by simpa using h1)⟩;have W1:=bV W1;have L1:=bV L1;have N1:=bV N1;have M1:=bV M1;have F1:=bV F1;have HAP:=bV hap;have hii:(prog.info? 3).map (λi=>(i.zero,i.size,i.bytes))=some (some (vI 0),1,8):=kR;obtain⟨i0,hi,hz0,hz1,hz2⟩:=info_parts hii;clear kp hl hn hm hw hap
 go_in;go_upto_region 1 with fail;obtain⟨w1,hw1⟩:∃w1,w.setCell (aD bw 5) (vI ((count:Int)+1))=w1:=⟨_,rfl⟩;rw[hw1]at W1 L1 N1 M1 F1;rw[hw1];obtain⟨C,hC⟩:∃C,count+1=C:=⟨_,rfl⟩;rw[hC]at W1;have HC:=bV hC;have hCl:C<=1000000000001:=oM;clear hw1 c0 c1 c2 c3 c4 c5 f5 hC;go_wp2_with fail;go_loopg[4] xs.length (λm iv wr=>∃i:Nat,iv=vI i/\i+m=xs.length/\Hid (LwC wr bw tx bn bm nu nm C)/\Hid (RowV wr 0 3 (.slice pl xs.length cl) (List.replicate i (vI (-(C:Int)))++xs.drop i))/\Hid (w1.grownBy wr (Value.slice pl xs.length cl).ownBlock))
 case atStart=>exact⟨0,rfl,oM,W1,by simpa using L1,bV (Fh (Aa w1))⟩
 case round=>
  obtain⟨i,rfl,him,WR,LR,GR⟩:=hrel;obtain⟨-,-,-,c3,c4,c5⟩:=WR.o.cells;rcases jD (show i<=xs.length by omega)with he|hlt;rotate_left
  ·have hil:(i:Int)<(xs.length:Int):=oM;obtain⟨m,rfl⟩:∃m,gk=m+1:=⟨gk-1,oM⟩;have hd:xs.drop i=xs[i]::xs.drop (i+1):=lD hlt;have hget:(List.replicate i (vI (-(C:Int)))++xs.drop i)[i]?=some xs[i]:=by
    rw[fB sM,wD,Nat.sub_self,hd];rfl
   obtain⟨gl,e,-,y0,yf,-,-⟩:=LR.o.at' hget;subst e;obtain⟨L2,G2⟩:=LR.o.set (k:=i) rfl (vI (-(C:Int)));have e5:(List.replicate i (vI (-(C:Int)))++xs.drop i).set i (vI (-(C:Int)))=List.replicate (i+1) (vI (-(C:Int)))++xs.drop (i+1):=by
    rw[aE _ _ sM,wD,Nat.sub_self,hd,zsZ,List.replicate_succ',wA];rfl
   rw[e5]at L2;have W2:LwC (wr.setCell (aD gl i) (vI (-(C:Int)))) bw tx bn bm nu nm C:=(G2.block bw (zgE.1 WR.o).1 (LR.o.ne dZ WR.o)).trans WR.o;have L2:=bV L2;have W2:=bV W2;have G2:=bV (Av GR.o G2);clear hd hget e5 WR LR GR;go_wp2_with fail;go_roundg m
   case measure=>omega
   case rel=>exact⟨i+1,by push_cast;rfl,oM,W2,L2,G2⟩
  ·have hil:¬(i:Int)<(xs.length:Int):=oM;obtain⟨w2,rfl⟩:∃w2,w2=wr:=⟨_,rfl⟩;have N2:=N1.o.kept λg hg=>by
    obtain⟨c,hc⟩:=N1.o.blk hg;exact GR.o.block g (zgE.1 hc).1 (L1.o.ne dZ hc)
   have M2:=M1.o.kept λg hg=>by
    obtain⟨c,hc⟩:=M1.o.blk hg;exact GR.o.block g (zgE.1 hc).1 (λe=>HAP.o g e.symm hg)
   have F2:InF w w2 bw nu nm (.slice pl xs.length cl):=⟨GR.o.os.trans F1.o.os,GR.o.tape.trans F1.o.tape,GR.o.output.trans F1.o.output,kB F1.o.size GR.o.size,λ{k} h1 h2 h3 h4 h5=>(GR.o.block k (aB h1 F1.o.size) h5).trans (F1.o.block h1 h2 h3 h4 h5)⟩;have P2:Hid (InP w w2 bw tx bn bm nu nm (.slice pl xs.length cl) NU MV C nu nm []):=bV ⟨F2,WR.o,by simpa using N2,by simpa using M2,λv hv=>(by cases hv),λg h=>.inl h,λg h=>.inl h⟩;have R2:Hid (RowV w2 0 3 (.slice pl xs.length cl) (List.replicate (xs.length+0) (vI (-(C:Int))))):=bV (by have:=LR.o;rw[he,List.drop_length,List.append_nil]at this;exact this);clear N2 M2 F2 GR LR WR c3 c4 c5 W1 L1 N1 M1 F1;go_wp2_with fail;go_loopg[1,5] 65 (λm lv iv wr=>∃(i:Nat) (nu' nm':Value) (add:List Value),iv=vI i/\i+m=65/\Hid (InP w wr bw tx bn bm nu nm (.slice pl xs.length cl) NU MV C nu' nm' add)/\Hid (RowV wr 0 3 lv (List.replicate (xs.length+i) (vI (-(C:Int)))))/\Hid (∀g,lv.ownBlock=some g->((Value.slice pl xs.length cl).ownBlock=some g\/w.heap.size<=g)/\nm'.ownBlock≠some g)/\Hid (∀v∈add,∀q n c,v=.slice q n c->n<=xs.length+i)/\add.length=if i<=3 then i else if i<=64 then 3 else 4)
   case atStart=>exact⟨0,nu,nm,[],rfl,oM,P2,R2,bV (λg hg=>⟨.inl hg,HAP.o g hg⟩),bV (λv hv=>by cases hv),rfl⟩
   case round=>
    obtain⟨j,nu',nm',add,rfl,hjm,PR,RR,OR,SR,hadd⟩:=hrel;rcases jD (show j<=65 by omega)with rfl|hlt
    ·go_wp2_with fail;go_end0;exact⟨rfl,nu',nm',add,by rw[HC.o];exact PR.o,by simpa using hadd⟩
    ·have HADD:=bV hadd;clear hadd;obtain⟨pv,cv,rfl⟩:=RR.o.slice;rw[wD]at *;by_cases hrec:j<3\/j=64
     ·have hj3:(j:Int)<=64:=oM;obtain⟨-,-,-,c3,c4,c5⟩:=PR.o.lw.cells;obtain⟨pn,cn,rfl⟩:=PR.o.nums.slice;obtain⟨kn,hkn⟩:∃kn,(NU++add).length=kn:=⟨_,rfl⟩;rw[hkn]at PR c3;obtain⟨m,rfl⟩:∃m,gk=m+1:=⟨gk-1,oM⟩;have hal:add.length<=4:=(by have:=HADD.o;split at this<;>(try split at this)<;>omega);have hkl:kn<=1000000000004:=(by rw[<-hkn];simp;omega);have hmx:kn+1<=maxLen:=(by unfold maxLen;omega);have hby:(kn+1)*24<=140737488355328:=oM;have ga:=zwA wr (.cells #[.slice pv (xs.length+j) cv] 33) none;have NA:Hid ((wr.alloc (.cells #[.slice pv (xs.length+j) cv] 33)).ownsRow 0 33 1 (.slice pn kn cn) kn (NU++add)):=bV (by have:=PR.o.nums.grown ga;unfold RowV at this;rw[hkn]at this;exact this);have GA:=bV ga;clear ga;have hll:(prog.info? 33).map (λi=>(i.zero,i.size,i.bytes))=some (some zN,1,24):=kR;obtain⟨l0,hl0,hy0,hy1,hy2⟩:=info_parts hll;rcases hrec with hj|hj
      case' inl=>have hj1:(j:Int)<3:=oM
      case' inr=>
       have hj1:¬(j:Int)<3:=oM;have hj2:((j:Int)==64)=true:=by simp;omega
      all_goals
       have HJ:=bV hj;clear hj
      all_goals
       go_wp2_with (at_builtin;refine Dd _ rfl _ _ 59 rfl 0 33 l0 zN 1 24 underlying59 hl0 hy0 hy1 hy2 rfl dZ (.slice pn kn cn) kn (NU++add) rfl NA.o (aD wr.heap.size 0) 1 1 [.slice pv (xs.length+j) cv] rfl rfl (H9 _ _ _) (by intro u hu;simp at hu;subst hu;rfl) dZ hmx hby (yD _) ?_;intro g9 cap9 w9 hown9 hway9 hlt9;have O9:=bV hown9;have Y9:=bV hway9;have L9:=PR.o.lw9 GA.o hway9;have z9:=L9.cells.2.2.2.1;have f9:w9.frozen? (aD bw 3)=false:=eB _ _ _ _ _ L9;clear hown9 hway9 L9);have RW9:RowV w9 0 33 (sL g9 (kn+1) cap9) (NU++add++[.slice pv (xs.length+j) cv]):=by
        have:=O9.o;unfold RowV;rw[eA,hkn];exact this
       obtain⟨Q9,R9⟩:=PR.o.record RR.o OR.o GA.o Y9.o RW9;have Q9:=bV Q9;have R9:=bV R9;obtain⟨wb,hwb⟩:∃wb,w9.setCell (aD bw 3) (sL g9 (kn+1) cap9)=wb:=⟨_,rfl⟩;rw[hwb]at Q9 R9;rw[hwb];obtain⟨-,-,-,d3,d4,d5⟩:=Q9.o.lw.cells;clear hwb RW9 O9 Y9 GA NA PR RR c3 c4 c5 z9 f9;clear hkn hmx hby hll hl0 hy0 hy1 hy2 hkl;obtain⟨km,hkm⟩:∃km,(MV++List.replicate add.length (vI (-(C:Int)))).length=km:=⟨_,rfl⟩;obtain⟨pm,cm,rfl⟩:=Q9.o.marks.slice;rw[hkm]at Q9 OR d4;have hkml:km<=1000000000004:=(by rw[<-hkm];simp;omega);have hmx2:km+1<=maxLen:=(by unfold maxLen;omega);have hby2:(km+1)*8<=140737488355328:=oM;have hmo:prog.follows .mixedOrders=true:=kR;have hwr:IntKind.i64.wrap (-(C:Int)) = -(C:Int):=IntWalk.i64_in _ oM;refine Er (λW=>W.cell? (aD bw 5)=some (vI C)) hmo d5 ?_;intro hSd;have gd:wb.grownBy wb.drew none:=Ad (Aa wb);have e4:wb.drew.cell? (aD bw 4)=some (.slice pm km cm):=d4;obtain⟨wd,hwd⟩:∃wd,wb.drew=wd:=⟨_,rfl⟩;rw[hwd]at hSd gd e4;rw[hwd];clear hwd d3 d4 d5;have ga2:wb.grownBy (wd.alloc (.cells #[vI (-(C:Int))] 3)) none:=Ai gd _;have MA:Hid ((wd.alloc (.cells #[vI (-(C:Int))] 3)).ownsRow 0 3 1 (.slice pm km cm) km (MV++List.replicate add.length (vI (-(C:Int))))):=bV (by have:=Q9.o.marks.grown ga2;unfold RowV at this;rw[hkm]at this;exact this);have NB:=H9 wd (vI (-(C:Int))) 3;have A5:(wd.alloc (.cells #[vI (-(C:Int))] 3)).cell? (aD bw 5)=some (vI C):=by
        rw[mB _ _ _ _ _ _ (zbG ga2 Q9.o.lw)];rfl
       have A4:(wd.alloc (.cells #[vI (-(C:Int))] 3)).cell? (aD bw 4)=some (.slice pm km cm):=by
        rw[mB _ _ _ _ _ _ (zbG ga2 Q9.o.lw)];rfl
       have GA2:=bV ga2;clear ga2 gd;refine tkH 0 (v:=pT bw) rfl (λW hW=>by go_simp) hSd ?_;simp only[Act.put];refine tkH 1 (v:=pT bw) rfl (λW hW=>by go_simp) hSd ?_;simp only[Act.put];refine tkH 2 (v:=pT bw) rfl (λW hW=>by go_simp) hSd ?_;simp only[Act.put];refine tkH 3 (v:=.pointer (some (aD bw 4))) rfl (λW hW=>by go_simp) hSd ?_;simp only[Act.put];refine tkH 5 (v:=pT bw) rfl (λW hW=>by go_simp) hSd ?_;simp only[Act.put];refine tkH 6 (v:=pT bw) rfl (λW hW=>by go_simp) hSd ?_;simp only[Act.put];refine tkH 7 (v:=.pointer (some (aD bw 5))) rfl (λW hW=>by go_simp) hSd ?_;simp only[Act.put];refine tkH 8 (v:=vI C) rfl (λW hW=>by go_simp) hSd ?_;simp only[Act.put];refine tkH 9 (v:=vI (-(C:Int))) rfl (λW hW=>by go_simp) hSd ?_;simp only[Act.put];refine gE (rs:=[4,10]) kR sM ?_;refine yA rfl (λK hK=>?_) (yA rfl (λK hK=>?_) zA)
       case' _=>
        go_simp;refine hK.out _ _ hSd (λhSd=>?_);clear hK K;refine gE (rs:=[10]) kR sM ?_;refine yA rfl (λK hK=>?_) zA;go_simp;refine hK.out _ _ A5 (λhSd=>?_);clear hK K
       rotate_left
       case' _=>
        go_simp;refine hK.out _ _ A5 (λhSd=>?_);clear hK K;refine gE (rs:=[4]) kR sM ?_;refine yA rfl (λK hK=>?_) zA;go_simp;refine hK.out _ _ A5 (λhSd=>?_);clear hK K
       all_goals
        clear hSd e4;refine gE (rs:=[11]) kR sM ?_;refine yA rfl (λK hK=>?_) zA;rw[mA (by rfl)];refine Jj _ _ _ 33 rfl 0 3 i0 (vI 0) 1 8 underlying33 hi hz0 hz1 hz2 rfl dZ (.slice pm km cm) km (MV++List.replicate add.length (vI (-(C:Int)))) rfl MA.o (aD wd.heap.size 0) 1 1 [vI (-(C:Int))] rfl rfl NB (by intro u hu;simp at hu;subst hu;rfl) dZ hmx2 hby2 (yD _) ?_;intro g8 cap8 w8 hown8 hway8 _;have L8:=Q9.o.lw10 GA2.o hway8;have z8:=L8.cells.2.2.2.2;have f8:w8.frozen? (aD bw 4)=false:=eB _ _ _ _ _ L8;have RW8:RowV w8 0 3 (sL g8 (km+1) cap8) (MV++List.replicate add.length (vI (-(C:Int)))++[vI (-(C:Int))]):=by
         have:=hown8;unfold RowV;rw[eA,hkm];exact this
        obtain⟨Q10,R10,O10⟩:=Q9.o.mark R9.o OR.o GA2.o hway8 RW8;have P10:Hid (InP w (w8.setCell (aD bw 4) (sL g8 (km+1) cap8)) bw tx bn bm nu nm (.slice pl xs.length cl) NU MV C (sL g9 (kn+1) cap9) (sL g8 (km+1) cap8) (add++[.slice pv (xs.length+j) cv])):=bV (by unfold InP;rw[eA];exact Q10);have R10:=bV R10;have O10:=bV O10;clear hown8 hway8 L8 RW8 Q10 Q9 R9 OR MA NB A4 A5 GA2;refine hK.out _ _ z8.2 (λhSd=>?_);clear hK K;refine gE (rs:=[12]) kR sM ?_;refine yA rfl (λK hK=>?_) zA;go_simp;refine hK.out _ _ z8.2 (λhSd=>?_);clear hK K;refine gE (rs:=[13]) kR sM ?_;refine yA rfl (λK hK=>?_) zA;go_simp;refine hK.out _ _ z8.2 (λhSd=>?_);clear hK K;refine gE (rs:=[14]) kR sM ?_;refine yA rfl (λK hK=>?_) zA;have z84:=z8.1;go_simp;obtain⟨-,-,-,-,-,d5⟩:=P10.o.lw.cells;refine hK.out _ _ d5 (λ_=>?_);clear hK K hSd z8 z84 f8;refine iE kR ⟨rfl,?_⟩ _;obtain⟨wc,hwc⟩:∃wc,w8.setCell (aD bw 4) (sL g8 (km+1) cap8)=wc:=⟨_,rfl⟩;rw[hwc]at P10 R10 d5;rw[hwc];clear hwc;have ga:=zwA wc (.cells #[vI (-(C:Int))] 3) none;have GA:=bV ga;have hmx:xs.length+j+1<=maxLen:=(by unfold maxLen;omega);have OA:Hid ((wc.alloc (.cells #[vI (-(C:Int))] 3)).ownsRow 0 3 1 (.slice pv (xs.length+j) cv) (xs.length+j) (List.replicate (xs.length+j) (vI (-(C:Int))))):=bV (by have:=R10.o.grown ga;unfold RowV at this;rw[wD]at this;exact this);clear ga;go_wp2_with (at_builtin;refine Dd _ rfl _ _ 33 rfl 0 3 i0 (vI 0) 1 8 underlying33 hi hz0 hz1 hz2 rfl dZ (.slice pv (xs.length+j) cv) (xs.length+j) (List.replicate (xs.length+j) (vI (-(C:Int)))) rfl OA.o (aD wc.heap.size 0) 1 1 [vI (-(C:Int))] rfl rfl (H9 _ _ _) (by intro u hu;simp at hu;subst hu;rfl) dZ hmx oM (yD _) ?_;intro g5 cap5 w5 hown5 hway5 hlt5;have O5:=bV hown5;have Y5:=bV hway5;clear hown5 hway5);have RW:RowV w5 0 3 (sL g5 (xs.length+j+1) cap5) (List.replicate (xs.length+j+1) (vI (-(C:Int)))):=by
         have:=O5.o;unfold RowV;rw[wD,List.replicate_succ'];exact this
        have S10:∀v∈add++[.slice pv (xs.length+j) cv],∀q n c,v=.slice q n c->n<=xs.length+j:=λv hv q n c e=>by
         rcases zmA.1 hv with hv|hv
         ·exact SR.o v hv q n c e
         ·rw[xB.1 hv]at e;cases e;exact znL _
        obtain⟨P6,O6⟩:=P10.o.step R10.o O10.o S10 GA.o Y5.o RW;have P6:=bV P6;have O6:=bV O6;have RW:=bV RW;have S6:=bV S10;clear O5 Y5 GA OA P10 R10 O10 d5 S10;go_wp2_with fail;go_roundg m
        case measure=>omega
        case rel=>exact⟨j+1,_,_,_,by push_cast;rfl,oM,P6,RW,O6,bV (λv hv q n c e=>by have:=S6.o v hv q n c e;omega),by have:=HJ.o;have:=HADD.o;rw[eA,wB];split at this<;>split<;>(try split at this)<;>(try split)<;>omega⟩
     ·have hj1:¬(j:Int)<3:=oM;have hj2:((j:Int)==64)=false:=(by simp;omega);have hj3:(j:Int)<=64:=oM;obtain⟨-,-,-,c3,c4,c5⟩:=PR.o.lw.cells;have ga:=zwA wr (.cells #[vI (-(C:Int))] 3) none;have RA:=bV (RR.o.grown ga);have GA:=bV ga;have hmx:xs.length+j+1<=maxLen:=(by unfold maxLen;omega);have OA:Hid ((wr.alloc (.cells #[vI (-(C:Int))] 3)).ownsRow 0 3 1 (.slice pv (xs.length+j) cv) (xs.length+j) (List.replicate (xs.length+j) (vI (-(C:Int))))):=bV (by have:=RA.o;unfold RowV at this;rw[wD]at this;exact this);clear ga;go_wp2_with (at_builtin;refine Dd _ rfl _ _ 33 rfl 0 3 i0 (vI 0) 1 8 underlying33 hi hz0 hz1 hz2 rfl dZ (.slice pv (xs.length+j) cv) (xs.length+j) (List.replicate (xs.length+j) (vI (-(C:Int)))) rfl OA.o (aD wr.heap.size 0) 1 1 [vI (-(C:Int))] rfl rfl (H9 _ _ _) (by intro u hu;simp at hu;subst hu;rfl) dZ hmx oM (yD _) ?_;intro g5 cap5 w5 hown5 hway5 hlt5;have O5:=bV hown5;have Y5:=bV hway5;clear hown5 hway5);obtain⟨m,rfl⟩:∃m,gk=m+1:=⟨gk-1,oM⟩;have RW:RowV w5 0 3 (sL g5 (xs.length+j+1) cap5) (List.replicate (xs.length+j+1) (vI (-(C:Int)))):=by
       have:=O5.o;unfold RowV;rw[wD,List.replicate_succ'];exact this
      obtain⟨P6,O6⟩:=PR.o.step RR.o OR.o SR.o GA.o Y5.o RW;have P6:=bV P6;have O6:=bV O6;have RW:=bV RW;clear O5 Y5 GA RA OA PR RR OR c3 c4 c5;go_wp2_with fail;go_roundg m
      case measure=>omega
      case rel=>exact⟨j+1,nu',nm',add,by push_cast;rfl,oM,P6,RW,O6,bV (λv hv q n c e=>by have:=SR.o v hv q n c e;omega),by have:=HADD.o;split at this<;>split<;>(try split at this)<;>(try split)<;>omega⟩
end
end Go.Proofs.YtckhafpejefbbaaGreatDoor
