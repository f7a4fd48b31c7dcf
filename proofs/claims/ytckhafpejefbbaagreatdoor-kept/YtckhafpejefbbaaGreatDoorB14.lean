/- Texts of the proof, put together: RunApply2, RunRest, RunEval. -/
import Derived.Test.YtckhafpejefbbaaGreatDoorB13

set_option maxRecDepth 100000
set_option maxHeartbeats 4000000
namespace Go.Proofs.YtckhafpejefbbaaGreatDoor
open Go.RowKit
variable {B : Nat}
theorem yay {n:Nat} (hE:zhu B n) {w:World} {br bud:Nat} {sl:List Nat} {st:Tw.RS} {fr to bat:Nat} {bn:List UInt8} {body:Tw.T} {env:Tw.VEnv} {y:Tw.Val} {xv yv:Value} {c:Option Tw.Val×Tw.RS} (h:RunAt B w br bud sl st) (hx:VRep w sl (.clo fr to bn bat body env) xv) (hy:VRep w sl y yv)
    (hf:Tw.zft bud n (.clo fr to bn bat body env) y st=some c) :
    Calls Tryz.prog 168 #[.pointer (some ⟨br,0,none⟩),xv,yv] w (EvPost B w br bud sl c):=by
  obtain ⟨b,fb,ev,v1,hi,rfl,hb,hfb,hr,he⟩:=hx
  have q:=zqk
  have HH:=bV h
  have VY:=bV hy
  have HB:=bV hb
  have HFB:=bV hfb
  have HR:=bV hr
  have HE:=bV he
  obtain ⟨T1,p1,rfl⟩:=VRep.iface hy
  obtain ⟨T2,k2,rfl⟩:=hr.iface
  obtain ⟨qa,rfl⟩:=he.ptr
  obtain ⟨c0,c1,c2,f0,f1,f2⟩:=zaf h.runner
  have hst:=h.steps
  have hbd:=h.bud
  unfold Tw.zft at hf
  simp only at hf
  clear h hy hb hfb hr he
  by_cases hs:st.steps=bud
  · rw [if_pos hs] at hf
    simp only [zsI] at hf
    subst hf
    have be:((st.steps:Int)==(bud:Int))=true:=by simp [hs]
    go_enter Tryz.func168,Tryz.ntmps168
    go_wp2_with fail
    go_region
    go_wp2_with fail
    go_ret
    have G:World.grownBy (w.setCell ⟨br,2,none⟩ (.int .i64 2)) (w.setCell ⟨br,2,none⟩ (.int .i64 2)).drew none:=zac (zab _)
    exact ⟨_,sl,rfl,rfl,(TK.set (uh HH).runner (by decide) (uh HH).lob).trans (TK.of_grown _ _ G),List.prefix_refl _,((uh HH).setEnd 2).keep G⟩
  · rw [if_neg hs] at hf
    have HF:=bV hf
    have be:((st.steps:Int)==(bud:Int))=false:=by
      simp
      omega
    have hs1:st.steps+1<=bud:=by omega
    have nb:b≠br:=by
      intro e; subst e
      have h1:=(uh HH).runner
      rw [uh HB] at h1
      simp at h1
    have nf:fb≠br:=by
      intro e; subst e
      have h1:=(uh HH).runner
      rw [uh HFB] at h1
      simp at h1
    clear hf
    go_enter Tryz.func168,Tryz.ntmps168
    go_wp2_with fail
    go_region
    go_wp2_with fail
    have e1:Value.int .i64 ((st.steps:Int)+1) = .int .i64 ((st.steps+1:Nat):Int):=by simp
    have R1:Hid (RunAt B (w.setCell ⟨br,1,none⟩ (.int .i64 ((st.steps:Int)+1))).drew br bud sl {st with steps:=st.steps+1}):=by
      rw [e1]
      exact ((uh HH).setSteps (st.steps+1) hs1).keep (zac (zab _))
    have K1:Hid (TK B RunS w (w.setCell ⟨br,1,none⟩ (.int .i64 ((st.steps:Int)+1))).drew):=(TK.set (uh HH).runner (by decide) (uh HH).lob).trans (TK.of_grown _ _ (zac (zab _)))
    generalize (w.setCell ⟨br,1,none⟩ (.int .i64 ((st.steps:Int)+1))).drew=W1 at *
    have D1:Hid (W1.grownBy W1.drew none):=zac (zab _)
    have R2:=bV (((uh R1).keep D1.out).newSlot (ov:=some y) (hv:=.iface T1 p1) (((uh VY).tk K1.out (List.prefix_refl _)).tk (TK.of_grown 0 _ D1.out) (List.prefix_refl _)))
    have A2:Hid (W1.grownBy (W1.drew.alloc (.cells #[.iface T1 p1] 311)) none):=zae D1.out _
    have B1:=bV (K1.out.cells (uh HB) (by decide))
    have F1:=bV (K1.out.cells (uh HFB) (by decide))
    obtain ⟨g0,g1,_,_⟩:=zau (uh B1)
    obtain ⟨_,_,j2,_,j4⟩:=zcf (uh F1)
    have lb:b<W1.heap.size:=(zgE.1 (uh B1)).1
    have lf:fb<W1.heap.size:=(zgE.1 (uh F1)).1
    have hne1:b≠W1.heap.size:=by omega
    have hne2:fb≠W1.heap.size:=by omega
    clear c0 c1 c2 f0 f1 f2 be q
    go_region_held3 (fun W=>W.cell? ⟨b,0,none⟩=some (.pointer (some ⟨fb,0,none⟩))/\W.cell? ⟨b,1,none⟩=some (.pointer qa)/\W.cell? ⟨fb,2,none⟩=some (ug bn)/\W.cell? ⟨fb,4,none⟩=some (.iface T2 (.pointer (some ⟨k2,0,none⟩)))) (go_keep)
      (first
        | (go_at_call 170; refine (zse (((uh HE).tk K1.out (List.prefix_refl _)).tk (TK.of_grown 0 _ A2.out) (List.prefix_append _ [W1.heap.size])) bn (k:=sl.length) (by simp)).mono ?_; rintro e1 w3 ⟨sa,rfl,hg,hn⟩
           have G3:Hid (W1.grownBy w3 none):=zaa A2.out hg
           have N3:=bV hn
           have R3:=bV ((uh R2).keep hg)
           obtain ⟨d0,d1,_,_⟩:=zau ((G3.out.block b lb (by simp)).trans (uh B1))
           obtain ⟨_,_,d2,_,d4⟩:=zcf ((G3.out.block fb lf (by simp)).trans (uh F1))
           clear hg hn)
        | (go_at_call 50; refine (hE (uh R3) (((uh HR).kp (K1.out.kp (by decide))).grown G3.out (znL _) (znL _)) (uh N3) (by rw [(uh HH).len]; exact uh HF)).mono ?_; rintro e1 w4 ⟨v4,sl4,rfl,hv4,hk4,hp4,hR4⟩
           have X:Hid (EvPost B w br bud sl c (.returned v4) w4):=⟨v4,sl4,rfl,hv4,(K1.out.trans (TK.of_grown _ _ G3.out)).trans hk4,(List.prefix_append _ _).trans hp4,hR4⟩
           have SH:=bV hv4.shape
           obtain ⟨d0,d1,_,_⟩:=zau (hk4.cells ((G3.out.block b lb (by simp)).trans (uh B1)) (by decide))
           obtain ⟨_,_,d2,_,d4⟩:=zcf (hk4.cells ((G3.out.block fb lf (by simp)).trans (uh F1)) (by decide))
           clear hv4 hk4 hp4 hR4))
    go_wp2_with fail
    go_ret
    exact X.out
theorem zxi {w:World} {br bud:Nat} {sl:List Nat} {st:Tw.RS} {sec:Bool} {y:Tw.Val} {yv:Value} (h:RunAt B w br bud sl st) (hy:VRep w sl y yv) :
  Calls Tryz.prog 168 #[.pointer (some ⟨br,0,none⟩),.iface 203 (.agg #[.bool sec]),yv] w (EvPost B w br bud sl (Tw.znw y sec,st)):=by
 have q:=zo0
 have q2:=zm2
 have HH:=bV h
 have VY:=bV hy
 obtain ⟨T1,p1,rfl⟩:=VRep.iface hy
 clear h hy
 have c1:Tryz.prog.cellsOf 203=1:=by kernel_rfl
 go_enter Tryz.func168,Tryz.ntmps168
 go_wp2_with fail
 refine (ycs ((uh VY).tk (TK.of_grown 0 _ (zwA w (.cells #[.bool sec] 203) none)) (List.prefix_refl _)) sec).mono ?_
 rintro e1 w1 ⟨v,rfl,hv,hg⟩
 have G:=zaa (zwA w (.cells #[.bool sec] 203) none) hg
 have X:Hid (EvPost B w br bud sl (Tw.znw y sec,st) (.returned v) w1):=⟨v,sl,rfl,hv,TK.of_grown _ _ G,List.prefix_refl _,(uh HH).keep G⟩
 have SH:=bV hv.shape
 clear hv hg G
 go_wp2_with fail
 go_ret
 exact X.out
theorem zki {PT:TypeId} {p:Value} (q:∀(p:Value) (w:World),Sem.run Tryz.prog (Instr.typeAssert (.iface PT p) 119 216 true) w = .ok (.tuple #[.pointer none,.bool false]) w)
  (q2:∀(p:Value) (w:World),Sem.run Tryz.prog (Instr.typeAssert (.iface PT p) 119 203 true) w = .ok (.tuple #[.agg #[.bool false],.bool false]) w) {w:World} {br bud:Nat} {sl:List Nat} {st:Tw.RS} {yv:Value} (h:RunAt B w br bud sl st) (hy:∃T p,yv = .iface T p) :
  Calls Tryz.prog 168 #[.pointer (some ⟨br,0,none⟩),.iface PT p,yv] w (EvPost B w br bud sl (none,st)):=by
 have HH:=bV h
 obtain ⟨T1,p1,rfl⟩:=hy
 clear h
 go_enter Tryz.func168,Tryz.ntmps168
 go_wp2_with fail
 go_ret
 exact ⟨_,sl,rfl,rfl,TK.refl _ _ _,List.prefix_refl _,uh HH⟩
theorem yaz {n:Nat} (hE:zhu B n) {w:World} {br bud:Nat} {sl:List Nat} {st:Tw.RS} {x y:Tw.Val} {xv yv:Value} {c:Option Tw.Val×Tw.RS} (h:RunAt B w br bud sl st) (hx:VRep w sl x xv) (hy:VRep w sl y yv) (hf:Tw.zft bud n x y st=some c) :
  Calls Tryz.prog 168 #[.pointer (some ⟨br,0,none⟩),xv,yv] w (EvPost B w br bud sl c):=by
 cases x with
 | clo=>exact yay hE h hx hy hf
 | side sec =>
  obtain rfl:xv=_:=hx
  cases hf
  exact zxi h hy
 | num =>
  obtain ⟨rfl,_⟩:=hx
  cases hf
  exact zki zxh zup h (VRep.iface hy)
 | truth =>
  obtain rfl:xv=_:=hx
  cases hf
  exact zki zs9 zrp h (VRep.iface hy)
 | pair =>
  obtain ⟨b,v1,v2,rfl,_⟩:=hx
  cases hf
  exact zki zur zta h (VRep.iface hy)
theorem ya0 {n:Nat} (hE:zhu B n) {w:World} {br bud hi b:Nat} {sl:List Nat} {st:Tw.RS} {l r:Tw.T} {e:Tw.VEnv} {lv rv ev:Value} {fr to:Nat} {c:Option Tw.Val×Tw.RS} (h:RunAt B w br bud sl st)
    (hb:w.heap[b]? = some (.cells #[.int .i64 fr,.int .i64 to,lv,rv] 319 (0,0))) (hl:Rep w 0 hi l lv) (hr:Rep w 0 hi r rv) (he:ERep w sl e ev) (hf:Tw.zap bud (n+1) (.call fr to l r) e st=some c) :
    Calls Tryz.prog 90 #[.pointer (some ⟨br,0,none⟩),.pointer (some ⟨b,0,none⟩),ev] w (EvPost B w br bud sl c):=by
  rw [Tw.zb7] at hf
  obtain ⟨a,ha,hf⟩:=zbE.1 hf
  have HH:=bV h
  have HL:=bV hl
  have HR:=bV hr
  have HE:=bV he
  have HA:=bV ha
  have B0:=bV hb
  obtain ⟨T1,k1,rfl⟩:=hl.iface
  obtain ⟨T2,k2,rfl⟩:=hr.iface
  obtain ⟨q,rfl⟩:=he.ptr
  obtain ⟨c2,c3⟩:=zhz hb
  have D1:Hid (w.grownBy w.drew none):=zac (zab _)
  clear h hl hr he ha hb
  go_enter Tryz.func90,Tryz.ntmps90
  go_wp2_with fail
  go_region_held3 (fun W=>W.cell? ⟨b,2,none⟩=some (.iface T1 (.pointer (some ⟨k1,0,none⟩)))/\W.cell? ⟨b,3,none⟩=some (.iface T2 (.pointer (some ⟨k2,0,none⟩)))) (go_keep)
    ((go_at_call 167; refine (zqi hE ((uh HH).keep D1.out) ((uh HL).grown D1.out (znL _) (znL _)) ((uh HR).grown D1.out (znL _) (znL _)) ((uh HE).tk (TK.of_grown 0 _ D1.out) (List.prefix_refl _)) (uh HA)).mono ?_; rintro e1 w1 ⟨v1,v2,ok,sl1,rfl,hm,hk,hp,hR⟩
      have K1:Hid (TK B RunS w w1):=(TK.of_grown _ _ D1.out).trans hk
      have P1:=bV hp
      have R1:=bV hR
      have HM:=bV hm
      obtain ⟨d2,d3⟩:=zhz (K1.out.cells B0.out (by decide))
      clear hk hp hR hm))
  obtain ⟨a1,a2⟩:=a
  cases a1 with
  | none =>
    obtain ⟨rfl,h1,rfl⟩:=HM.out
    simp only [zsI] at hf
    subst hf
    go_wp2_with fail
    go_ret
    exact ⟨_,sl1,rfl,rfl,K1.out,uh P1,uh R1⟩
  | some xy =>
    obtain ⟨x,y⟩:=xy
    obtain ⟨rfl,h1,h2⟩:=HM.out
    have HF:Hid (Tw.zft bud n x y a2=some c):=hf
    have V1:=bV h1
    have V2:=bV h2
    obtain ⟨T3,p3,rfl⟩:=VRep.iface h1
    obtain ⟨T4,p4,rfl⟩:=VRep.iface h2
    clear h1 h2 HM hf
    go_wp2_with fail
    refine (yaz hE (uh R1) (uh V1) (uh V2) (uh HF)).mono ?_
    rintro e1 w2 h2
    obtain ⟨v,sl2,rfl,hv,hk,hp,hR⟩:=h2
    have X:Hid (EvPost B w br bud sl c (.returned v) w2):=⟨v,sl2,rfl,hv,K1.out.trans hk,(uh P1).trans hp,hR⟩
    clear hv hk hp hR
    go_wp2_with fail
    go_ret
    exact X.out
open Go.RowKit
variable {B : Nat}
theorem zk6 (n:Int) : -9223372036854775808<=wrap64 n/\wrap64 n<=9223372036854775807:=by
 unfold wrap64
 omega
theorem zxj {w:World} {br bud:Nat} {sl:List Nat} {st:Tw.RS} (h:RunAt B w br bud sl st) (sg a b:Int) :
  Calls Tryz.prog 169 #[.pointer (some ⟨br,0,none⟩),.int .i64 sg,.int .i64 a,.int .i64 b] w (EvPost B w br bud sl (Tw.zck sg a b st)):=by
 have HH:=bV h
 clear h
 unfold Tw.zck
 by_cases h1:sg=19
 ·subst h1
  rw [if_pos rfl]
  go_enter Tryz.func169,Tryz.ntmps169
  go_wp2_with fail
  go_ret
  exact ⟨_,sl,rfl,⟨rfl,zk6 _⟩,TK.refl _ _ _,List.prefix_refl _,uh HH⟩
 rw [if_neg h1]
 by_cases h2:sg=20
 ·subst h2
  rw [if_pos rfl]
  go_enter Tryz.func169,Tryz.ntmps169
  go_wp2_with fail
  go_ret
  exact ⟨_,sl,rfl,⟨rfl,zk6 _⟩,TK.refl _ _ _,List.prefix_refl _,uh HH⟩
 rw [if_neg h2]
 by_cases h3:sg=21
 ·subst h3
  rw [if_pos rfl]
  go_enter Tryz.func169,Tryz.ntmps169
  go_wp2_with fail
  go_ret
  exact ⟨_,sl,rfl,⟨rfl,zk6 _⟩,TK.refl _ _ _,List.prefix_refl _,uh HH⟩
 rw [if_neg h3]
 by_cases h4:sg=23
 ·subst h4
  rw [if_pos rfl]
  go_enter Tryz.func169,Tryz.ntmps169
  go_wp2_with fail
  go_ret
  exact ⟨_,sl,rfl,rfl,TK.refl _ _ _,List.prefix_refl _,uh HH⟩
 rw [if_neg h4]
 by_cases h5:sg=15
 ·subst h5
  rw [if_pos rfl]
  go_enter Tryz.func169,Tryz.ntmps169
  go_wp2_with fail
  go_ret
  exact ⟨_,sl,rfl,rfl,TK.refl _ _ _,List.prefix_refl _,uh HH⟩
 rw [if_neg h5]
 have b1:(sg==19)=false:=by simp [h1]
 have b2:(sg==20)=false:=by simp [h2]
 have b3:(sg==21)=false:=by simp [h3]
 have b4:(sg==23)=false:=by simp [h4]
 have b5:(sg==15)=false:=by simp [h5]
 by_cases h0:b=0
 ·subst h0
  rw [if_pos rfl]
  go_enter Tryz.func169,Tryz.ntmps169
  go_wp2_with fail
  refine (zsf (uh HH)).mono ?_
  rintro e1 w1 ⟨v,sl',rfl,hv,hk,hp,hR⟩
  have X:Hid (EvPost B w br bud sl (none,{st with fin:=1}) (.returned v) w1):=⟨v,sl',rfl,hv,hk,hp,hR⟩
  clear hv hk hp hR
  go_wp2_with fail
  go_ret
  exact X.out
 ·rw [if_neg h0]
  have b0:(b==0)=false:=by simp [h0]
  go_enter Tryz.func169,Tryz.ntmps169
  go_wp2_with fail
  go_ret
  exact ⟨_,sl,rfl,⟨rfl,zk6 _⟩,TK.refl _ _ _,List.prefix_refl _,uh HH⟩
theorem yct {w:World} {sl:List Nat} {x:Tw.Val} {v:Value} (h:VRep w sl x v):∃T p ok,v = .iface T p/\∀W:World,Sem.run Tryz.prog (Instr.typeAssert (.iface T p) 119 192 true) W = .ok (.tuple #[.int .i64 (Tw.asNum x),.bool ok]) W:=by
 cases x with
 | num n=>obtain ⟨rfl,_⟩:=h; exact ⟨_,_,true,rfl,zqj _⟩
 | truth=>obtain rfl:v=_:=h; exact ⟨_,_,false,rfl,zm0 _⟩
 | side=>obtain rfl:v=_:=h; exact ⟨_,_,false,rfl,zo1 _⟩
 | pair=>obtain ⟨b,v1,v2,rfl,_⟩:=h; exact ⟨_,_,false,rfl,zo2 _⟩
 | clo=>obtain ⟨b,fb,ev,v1,hi,rfl,_⟩:=h; exact ⟨_,_,false,rfl,zql _⟩
theorem zh0 {w:World} {b:Nat} {x y z u q:Value} {t:TypeId} (h:w.heap[b]? = some (.cells #[x,y,z,u,q] t (0,0))):w.cell? ⟨b,2,none⟩=some z/\w.cell? ⟨b,3,none⟩=some u/\w.cell? ⟨b,4,none⟩=some q:=by
 refine ⟨?_,?_,?_⟩ <;> (rw [cell_of_row w b _ _ _ _ h]; rfl)
theorem zut {n:Nat} (hE:zhu B n) {w:World} {br bud hi b:Nat} {sl:List Nat} {st:Tw.RS} {l r:Tw.T} {e:Tw.VEnv} {lv rv ev:Value} {fr to:Nat} {sg:Int} {c:Option Tw.Val×Tw.RS} (h:RunAt B w br bud sl st)
    (hb:w.heap[b]? = some (.cells #[.int .i64 fr,.int .i64 to,.int .i64 sg,lv,rv] 322 (0,0))) (hl:Rep w 0 hi l lv) (hr:Rep w 0 hi r rv) (he:ERep w sl e ev) (hf:Tw.zap bud (n+1) (.binary fr to sg l r) e st=some c) :
    Calls Tryz.prog 91 #[.pointer (some ⟨br,0,none⟩),.pointer (some ⟨b,0,none⟩),ev] w (EvPost B w br bud sl c):=by
  rw [Tw.zcy] at hf
  obtain ⟨a,ha,hf⟩:=zbE.1 hf
  have HH:=bV h
  have HL:=bV hl
  have HR:=bV hr
  have HE:=bV he
  have HA:=bV ha
  have B0:=bV hb
  obtain ⟨T1,k1,rfl⟩:=hl.iface
  obtain ⟨T2,k2,rfl⟩:=hr.iface
  obtain ⟨q,rfl⟩:=he.ptr
  obtain ⟨c2,c3,c4⟩:=zh0 hb
  have D1:Hid (w.grownBy w.drew none):=zac (zab _)
  clear h hl hr he ha hb
  go_enter Tryz.func91,Tryz.ntmps91
  go_wp2_with fail
  go_region_held3 (fun W=>W.cell? ⟨b,3,none⟩=some (.iface T1 (.pointer (some ⟨k1,0,none⟩)))/\W.cell? ⟨b,4,none⟩=some (.iface T2 (.pointer (some ⟨k2,0,none⟩)))) (go_keep)
    ((go_at_call 167; refine (zqi hE ((uh HH).keep D1.out) ((uh HL).grown D1.out (znL _) (znL _)) ((uh HR).grown D1.out (znL _) (znL _)) ((uh HE).tk (TK.of_grown 0 _ D1.out) (List.prefix_refl _)) (uh HA)).mono ?_; rintro e1 w1 ⟨v1,v2,ok,sl1,rfl,hm,hk,hp,hR⟩
      have K1:Hid (TK B RunS w w1):=(TK.of_grown _ _ D1.out).trans hk
      have P1:=bV hp
      have R1:=bV hR
      have HM:=bV hm
      obtain ⟨d2,d3,d4⟩:=zh0 (K1.out.cells B0.out (by decide))
      clear hk hp hR hm))
  obtain ⟨a1,a2⟩:=a
  cases a1 with
  | none =>
    obtain ⟨rfl,h1,rfl⟩:=HM.out
    simp only [zsI] at hf
    subst hf
    go_wp2_with fail
    go_ret
    exact ⟨_,sl1,rfl,rfl,K1.out,uh P1,uh R1⟩
  | some xy =>
    obtain ⟨x,y⟩:=xy
    obtain ⟨rfl,h1,h2⟩:=HM.out
    simp only [zsI] at hf
    subst hf
    obtain ⟨T3,p3,ok3,rfl,q3⟩:=yct h1
    obtain ⟨T4,p4,ok4,rfl,q4⟩:=yct h2
    clear h1 h2 HM c2 c3 c4
    go_wp2_with fail
    refine (zxj (uh R1) sg _ _).mono ?_
    rintro e1 w2 ⟨v,sl2,rfl,hv,hk,hp,hR⟩
    have X:Hid (EvPost B w br bud sl (Tw.zck sg (Tw.asNum x) (Tw.asNum y) a2) (.returned v) w2):=⟨v,sl2,rfl,hv,K1.out.trans hk,(uh P1).trans hp,hR⟩
    clear hv hk hp hR
    go_wp2_with fail
    go_ret
    exact X.out
theorem yfk (m:Int) (w:World):Sem.run Tryz.prog (binOp .eql 119 (.iface 192 (.int .i64 m)) (.iface 196 (.bool true))) w = .ok (.bool false) w:=by kernel_rfl
theorem yej (m:Bool) (w:World):Sem.run Tryz.prog (binOp .eql 119 (.iface 203 (.agg #[.bool m])) (.iface 196 (.bool true))) w = .ok (.bool false) w:=by kernel_rfl
theorem yek (m:Option Addr) (w:World):Sem.run Tryz.prog (binOp .eql 119 (.iface 315 (.pointer m)) (.iface 196 (.bool true))) w = .ok (.bool false) w:=by kernel_rfl
theorem yfl (m:Option Addr) (w:World):Sem.run Tryz.prog (binOp .eql 119 (.iface 216 (.pointer m)) (.iface 196 (.bool true))) w = .ok (.bool false) w:=by kernel_rfl
theorem ycu (w:World):Sem.run Tryz.prog (binOp .eql 119 (.iface 196 (.bool false)) (.iface 196 (.bool true))) w = .ok (.bool false) w:=by kernel_rfl
theorem ycv (w:World):Sem.run Tryz.prog (binOp .eql 119 (.iface 196 (.bool true)) (.iface 196 (.bool true))) w = .ok (.bool true) w:=by kernel_rfl
theorem yel {w:World} {sl:List Nat} {x:Tw.Val} {v:Value} (h:VRep w sl x v):∃T p,v = .iface T p/\∀W:World,Sem.run Tryz.prog (binOp .eql 119 (.iface T p) (.iface 196 (.bool true))) W = .ok (.bool (decide (x = .truth true))) W:=by
 cases x with
 | num n=>obtain ⟨rfl,_⟩:=h; exact ⟨_,_,rfl,fun W=>yfk n W⟩
 | truth m =>
  obtain rfl:v=_:=h
  refine ⟨_,_,rfl,fun W => ?_⟩
  cases m
  ·exact ycu W
  ·exact ycv W
 | side m=>obtain rfl:v=_:=h; exact ⟨_,_,rfl,fun W=>yej m W⟩
 | pair=>obtain ⟨b,v1,v2,rfl,_⟩:=h; exact ⟨_,_,rfl,fun W=>yek _ W⟩
 | clo=>obtain ⟨b,fb,ev,v1,hi,rfl,_⟩:=h; exact ⟨_,_,rfl,fun W=>yfl _ W⟩
theorem zuu {n:Nat} (hE:zhu B n) {w:World} {br bud hi b:Nat} {sl:List Nat} {st:Tw.RS} {t1 t2 t3:Tw.T} {e:Tw.VEnv} {v1 v2 v3 ev:Value} {fr to:Nat} {c:Option Tw.Val×Tw.RS} (h:RunAt B w br bud sl st)
  (hb:w.heap[b]? = some (.cells #[.int .i64 fr,.int .i64 to,v1,v2,v3] 326 (0,0))) (h1:Rep w 0 hi t1 v1) (h2:Rep w 0 hi t2 v2) (h3:Rep w 0 hi t3 v3) (he:ERep w sl e ev) (hf:Tw.zap bud (n+1) (.cond fr to t1 t2 t3) e st=some c) :
  Calls Tryz.prog 92 #[.pointer (some ⟨br,0,none⟩),.pointer (some ⟨b,0,none⟩),ev] w (EvPost B w br bud sl c):=by
 rw [Tw.zap] at hf
 obtain ⟨a,ha,hf⟩:=zbE.1 hf
 have HH:=bV h
 have H1:=bV h1
 have H2:=bV h2
 have H3:=bV h3
 have HE:=bV he
 have HA:=bV ha
 have B0:=bV hb
 obtain ⟨T1,k1,rfl⟩:=h1.iface
 obtain ⟨T2,k2,rfl⟩:=h2.iface
 obtain ⟨T3,k3,rfl⟩:=h3.iface
 obtain ⟨q,rfl⟩:=he.ptr
 obtain ⟨c2,c3,c4⟩:=zh0 hb
 clear h h1 h2 h3 he ha hb
 go_enter Tryz.func92,Tryz.ntmps92
 go_wp2_with fail
 refine (hE (uh HH) (uh H1) (uh HE) (uh HA)).mono ?_
 rintro e1 w1 ⟨v,sl1,rfl,hv,hk,hp,hR⟩
 have K1:=bV hk
 have P1:=bV hp
 have R1:=bV hR
 obtain ⟨d2,d3,d4⟩:=zh0 (hk.cells B0.out (by decide))
 obtain ⟨a1,a2⟩:=a
 clear hk hp hR c2 c3 c4
 have tail:Hid (∀(t:Tw.T) (T k:Nat),Rep w 0 hi t (.iface T (.pointer (some ⟨k,0,none⟩)))->Tw.zap bud n t e a2=some c->Calls Tryz.prog 50 #[.pointer (some ⟨br,0,none⟩),.iface T (.pointer (some ⟨k,0,none⟩)),.pointer q] w1 (EvPost B w br bud sl c)) :=
  fun t T k hr hf=>(hE (uh R1) (hr.kp ((uh K1).kp (by decide))) ((uh HE).tk (uh K1) (uh P1)) hf).mono fun _ _ x=>x.from (uh K1) (uh P1)
 cases a1 with
 | none =>
  simp only [zsI] at hf
  subst hf
  obtain rfl:v = .nilIface:=hv
  go_wp2_with fail
  go_ret
  exact ⟨_,sl1,rfl,rfl,uh K1,uh P1,uh R1⟩
 | some x =>
  simp only at hf
  obtain ⟨T,p,rfl,heq⟩:=yel hv
  by_cases hx:x = .truth true
  ·rw [if_pos hx] at hf
   have CA:=bV (uh tail t2 T2 k2 (uh H2) hf)
   simp only [hx,decide_true] at heq
   clear hf tail hv
   go_wp2_with fail
   refine (uh CA).mono ?_
   rintro e1 w2 ⟨v,sl2,rfl,hx⟩
   have X:Hid (EvPost B w br bud sl c (.returned v) w2):=⟨v,sl2,rfl,hx⟩
   clear hx
   go_wp2_with fail
   go_ret
   exact X.out
  ·rw [if_neg hx] at hf
   have CA:=bV (uh tail t3 T3 k3 (uh H3) hf)
   simp only [hx,decide_false] at heq
   clear hf tail hv
   go_wp2_with fail
   refine (uh CA).mono ?_
   rintro e1 w2 ⟨v,sl2,rfl,hx⟩
   have X:Hid (EvPost B w br bud sl c (.returned v) w2):=⟨v,sl2,rfl,hx⟩
   clear hx
   go_wp2_with fail
   go_ret
   exact X.out
theorem ycw {n:Nat} (hE:zhu B n) {w:World} {br bud hi b:Nat} {sl:List Nat} {st:Tw.RS} {d x:Tw.T} {e:Tw.VEnv} {v1 v2 ev:Value} {fr to bat:Nat} {rc:Bool} {bn:List UInt8} {c:Option Tw.Val×Tw.RS} (h:RunAt B w br bud sl st)
  (hb:w.heap[b]? = some (.cells #[.int .i64 fr,.int .i64 to,.bool rc,ug bn,.int .i64 bat,v1,v2] 140 (0,0))) (h1:Rep w 0 hi d v1) (h2:Rep w 0 hi x v2) (he:ERep w sl e ev) (hf:Tw.zap bud (n+1) (.lett fr to rc bn bat d x) e st=some c) :
  Calls Tryz.prog 93 #[.pointer (some ⟨br,0,none⟩),.pointer (some ⟨b,0,none⟩),ev] w (EvPost B w br bud sl c):=by
 rw [Tw.zap] at hf
 obtain ⟨a,ha,hf⟩:=zbE.1 hf
 have hlen:=h.len
 have HH:=bV h
 have H1:=bV h1
 have H2:=bV h2
 have HE:=bV he
 have HA:=bV ha
 have B0:=bV hb
 obtain ⟨T1,k1,rfl⟩:=h1.iface
 obtain ⟨T2,k2,rfl⟩:=h2.iface
 obtain ⟨q,rfl⟩:=he.ptr
 have lb:b<w.heap.size:=(zgE.1 hb).1
 have R0:=bV (h.newSlot (ov:=none) (hv:=.nilIface) rfl)
 have A0:Hid (w.grownBy (w.alloc (.cells #[.nilIface] 311)) none):=zwA _ _ none
 have E0:=bV (he.tk (TK.of_grown 0 _ A0.out) (List.prefix_append sl [w.heap.size]))
 obtain ⟨c2,c3,c5,c6⟩:=za1 hb
 clear h h1 h2 he ha hb
 go_enter Tryz.func93,Tryz.ntmps93
 go_wp2_with fail
 refine (zse (uh E0) bn (k:=sl.length) (bs:=w.heap.size) (by simp)).mono ?_
 rintro e1 w1 ⟨sa,rfl,hg,hn⟩
 have G1:Hid (w.grownBy w1 none):=zaa A0.out hg
 have N1:=bV hn
 have R1:=bV ((uh R0).keep hg)
 have O1:=bV ((uh E0).tk (TK.of_grown 0 _ hg) (List.prefix_refl _))
 obtain ⟨d2,d3,d5,d6⟩:=za1 ((G1.out.block b lb (by simp)).trans B0.out)
 clear hg hn c2 c3 c5 c6
 have key:Hid (∃iv,iv=(if rc then .pointer sa else .pointer q:Value)/\ERep w1 (sl ++ [w.heap.size]) (if rc then (bn,st.slots.length)::e else e) iv):=by
  cases rc
  ·exact ⟨_,rfl,uh O1⟩
  ·exact ⟨_,rfl,by rw [<-hlen]; exact uh N1⟩
 cases rc <;> (
  simp only [Bool.false_eq_true,if_false,if_true] at key HA
  obtain ⟨iv,rfl,hiv⟩:=key.out
  have HIV:=bV hiv
  clear hiv key
  go_wp2_with fail
  refine (hE (uh R1) ((uh H1).grown G1.out (znL _) (znL _)) (uh HIV) (uh HA)).mono ?_
  rintro e1 w2 ⟨v,sl2,rfl,hv,hk,hp,hR⟩
  obtain ⟨a1,a2⟩:=a
  have K2:Hid (TK B RunS w w2):=(TK.of_grown _ _ G1.out).trans hk
  have P2:=bV hp
  have R2:=bV hR
  have N2:=bV ((uh N1).tk hk hp)
  obtain ⟨g2,g3,g5,g6⟩:=za1 (K2.out.cells B0.out (by decide))
  have hsl:sl2[sl.length]? = some w.heap.size:=by
   obtain ⟨r,rfl⟩:=hp
   simp
  cases a1 with
  | none =>
   simp only [zsI] at hf
   subst hf
   obtain rfl:v = .nilIface:=hv
   clear hk hp hR
   go_wp2_with fail
   go_ret
   exact ⟨_,sl2,rfl,rfl,K2.out,(List.prefix_append _ _).trans (uh P2),uh R2⟩
  | some y =>
   simp only at hf
   have HF:=bV hf
   obtain ⟨R3,K3⟩:=hR.setSlot hsl (x:=y) (v:=v) hv
   have hl2:sl.length<a2.slots.length:=by rw [<-hR.len]; exact (zlE.1 hsl).1
   obtain ⟨hv0,hc0,_⟩:=hR.slot hsl (List.getElem?_eq_getElem hl2)
   obtain ⟨s0,s1⟩:=zag hc0
   obtain ⟨T5,p5,rfl⟩:=VRep.iface hv
   have R3:=bV R3
   have K3:=bV (K2.out.trans K3)
   have N3:=bV ((uh N2).tk (TK.set (j:=0) (v:=.iface T5 p5) hc0 (by decide) ((uh R2).los hsl)) (List.prefix_refl _))
   have hbne:b≠w.heap.size:=by omega
   have u6:(w2.setCell ⟨w.heap.size,0,none⟩ (.iface T5 p5)).cell? ⟨b,6,none⟩=some (.iface T2 (.pointer (some ⟨k2,0,none⟩))):=(za1 ((uh K3).cells B0.out (by decide))).2.2.2
   clear hk hp hR hv hf hc0
   go_wp2_with fail
   refine (hE (uh R3) ((uh H2).kp ((uh K3).kp (by decide))) (uh N3) (by rw [hlen]; exact uh HF)).mono ?_
   rintro e1 w4 ⟨v4,sl4,rfl,hv4,hk4,hp4,hR4⟩
   have X:Hid (EvPost B w br bud sl c (.returned v4) w4):=⟨v4,sl4,rfl,hv4,(uh K3).trans hk4,((List.prefix_append _ _).trans (uh P2)).trans hp4,hR4⟩
   clear hv4 hk4 hp4 hR4
   go_wp2_with fail
   go_ret
   exact X.out)
open Go.RowKit
variable {B : Nat}
theorem yem {w:World} {br b bud:Nat} {sl:List Nat} {ev:Value} {c:Option Tw.Val×Tw.RS} (he:∃a,ev = .pointer a) (hX:Calls Tryz.prog 88 #[.pointer (some ⟨br,0,none⟩),.pointer (some ⟨b,0,none⟩),ev] w (EvPost B w br bud sl c)) :
  Calls Tryz.prog 50 #[.pointer (some ⟨br,0,none⟩),.iface 83 (.pointer (some ⟨b,0,none⟩)),ev] w (EvPost B w br bud sl c):=by
 obtain ⟨a,rfl⟩:=he
 have HX:=bV hX
 have q0:=zfh
 clear hX
 go_enter Tryz.func50,Tryz.ntmps50
 go_wp2_with fail
 refine (uh HX).mono ?_
 rintro e1 w1 ⟨v,sl1,rfl,hx⟩
 have X:Hid (EvPost B w br bud sl c (.returned v) w1):=⟨v,sl1,rfl,hx⟩
 clear hx
 go_wp2_with fail
 go_ret
 exact X.out
theorem yen {w:World} {br b bud:Nat} {sl:List Nat} {ev:Value} {c:Option Tw.Val×Tw.RS} (he:∃a,ev = .pointer a) (hX:Calls Tryz.prog 89 #[.pointer (some ⟨br,0,none⟩),.pointer (some ⟨b,0,none⟩),ev] w (EvPost B w br bud sl c)) :
  Calls Tryz.prog 50 #[.pointer (some ⟨br,0,none⟩),.iface 207 (.pointer (some ⟨b,0,none⟩)),ev] w (EvPost B w br bud sl c):=by
 obtain ⟨a,rfl⟩:=he
 have HX:=bV hX
 have q0:=zfj
 have q1:=zj2
 have q2:=zic
 have q3:=zi6
 have q4:=zgr
 have q5:=zgw
 clear hX
 go_enter Tryz.func50,Tryz.ntmps50
 go_wp2_with fail
 refine (uh HX).mono ?_
 rintro e1 w1 ⟨v,sl1,rfl,hx⟩
 have X:Hid (EvPost B w br bud sl c (.returned v) w1):=⟨v,sl1,rfl,hx⟩
 clear hx
 go_wp2_with fail
 go_ret
 exact X.out
theorem yeo {w:World} {br b bud:Nat} {sl:List Nat} {ev:Value} {c:Option Tw.Val×Tw.RS} (he:∃a,ev = .pointer a) (hX:Calls Tryz.prog 90 #[.pointer (some ⟨br,0,none⟩),.pointer (some ⟨b,0,none⟩),ev] w (EvPost B w br bud sl c)) :
  Calls Tryz.prog 50 #[.pointer (some ⟨br,0,none⟩),.iface 209 (.pointer (some ⟨b,0,none⟩)),ev] w (EvPost B w br bud sl c):=by
 obtain ⟨a,rfl⟩:=he
 have HX:=bV hX
 have q0:=zfk
 have q1:=zj4
 have q2:=zid
 have q3:=zi7
 have q4:=zey
 have q5:=zgx
 have q6:=zi8
 clear hX
 go_enter Tryz.func50,Tryz.ntmps50
 go_wp2_with fail
 refine (uh HX).mono ?_
 rintro e1 w1 ⟨v,sl1,rfl,hx⟩
 have X:Hid (EvPost B w br bud sl c (.returned v) w1):=⟨v,sl1,rfl,hx⟩
 clear hx
 go_wp2_with fail
 go_ret
 exact X.out
theorem ya1 {w:World} {br b bud:Nat} {sl:List Nat} {ev:Value} {c:Option Tw.Val×Tw.RS} (he:∃a,ev = .pointer a) (hX:Calls Tryz.prog 91 #[.pointer (some ⟨br,0,none⟩),.pointer (some ⟨b,0,none⟩),ev] w (EvPost B w br bud sl c)) :
  Calls Tryz.prog 50 #[.pointer (some ⟨br,0,none⟩),.iface 211 (.pointer (some ⟨b,0,none⟩)),ev] w (EvPost B w br bud sl c):=by
 obtain ⟨a,rfl⟩:=he
 have HX:=bV hX
 have q0:=zeh
 have q1:=zie
 have q2:=zgs
 have q3:=zhf
 have q4:=zec
 have q5:=zfl
 have q6:=zhg
 have q7:=zfz
 clear hX
 go_enter Tryz.func50,Tryz.ntmps50
 go_wp2_with fail
 refine (uh HX).mono ?_
 rintro e1 w1 ⟨v,sl1,rfl,hx⟩
 have X:Hid (EvPost B w br bud sl c (.returned v) w1):=⟨v,sl1,rfl,hx⟩
 clear hx
 go_wp2_with fail
 go_ret
 exact X.out
theorem yfz {w:World} {br b bud:Nat} {sl:List Nat} {ev:Value} {c:Option Tw.Val×Tw.RS} (he:∃a,ev = .pointer a) (hX:Calls Tryz.prog 92 #[.pointer (some ⟨br,0,none⟩),.pointer (some ⟨b,0,none⟩),ev] w (EvPost B w br bud sl c)) :
  Calls Tryz.prog 50 #[.pointer (some ⟨br,0,none⟩),.iface 213 (.pointer (some ⟨b,0,none⟩)),ev] w (EvPost B w br bud sl c):=by
 obtain ⟨a,rfl⟩:=he
 have HX:=bV hX
 have q0:=zhh
 have q1:=zn2
 have q2:=zj6
 have q3:=zl3
 have q4:=zf9
 have q5:=zi9
 have q6:=zl4
 have q7:=zja
 have q8:=zp7
 clear hX
 go_enter Tryz.func50,Tryz.ntmps50
 go_wp2_with fail
 refine (uh HX).mono ?_
 rintro e1 w1 ⟨v,sl1,rfl,hx⟩
 have X:Hid (EvPost B w br bud sl c (.returned v) w1):=⟨v,sl1,rfl,hx⟩
 clear hx
 go_wp2_with fail
 go_ret
 exact X.out
theorem yfm {w:World} {br b bud:Nat} {sl:List Nat} {ev:Value} {c:Option Tw.Val×Tw.RS} (he:∃a,ev = .pointer a) (hX:Calls Tryz.prog 93 #[.pointer (some ⟨br,0,none⟩),.pointer (some ⟨b,0,none⟩),ev] w (EvPost B w br bud sl c)) :
  Calls Tryz.prog 50 #[.pointer (some ⟨br,0,none⟩),.iface 136 (.pointer (some ⟨b,0,none⟩)),ev] w (EvPost B w br bud sl c):=by
 obtain ⟨a,rfl⟩:=he
 have HX:=bV hX
 have q0:=zgj
 have q1:=zl5
 have q2:=zjc
 have q3:=zka
 have q4:=zfm
 have q5:=zhx
 have q6:=zkb
 have q7:=zig
 have q8:=zn4
 have q9:=zdx
 have q10:=zcv
 clear hX
 go_enter Tryz.func50,Tryz.ntmps50
 go_wp2_with fail
 refine (uh HX).mono ?_
 rintro e1 w1 ⟨v,sl1,rfl,hx⟩
 have X:Hid (EvPost B w br bud sl c (.returned v) w1):=⟨v,sl1,rfl,hx⟩
 clear hx
 go_wp2_with fail
 go_ret
 exact X.out
theorem yfn {w:World} {br b bud:Nat} {sl:List Nat} {st:Tw.RS} {ev:Value} {fr to:Nat} {v:Int} (h:RunAt B w br bud sl st) (he:∃a,ev = .pointer a) (hb:w.heap[b]? = some (.cells #[.int .i64 fr,.int .i64 to,.int .i64 v] 194 (0,0))) (hv : -9223372036854775808<=v/\v<=9223372036854775807) :
  Calls Tryz.prog 50 #[.pointer (some ⟨br,0,none⟩),.iface 191 (.pointer (some ⟨b,0,none⟩)),ev] w (EvPost B w br bud sl (some (.num v),st)):=by
 obtain ⟨a,rfl⟩:=he
 have HH:=bV h
 obtain ⟨_,_,c2,_⟩:=zaf hb
 have q0:=zgh
 have q1:=zl2
 clear h hb
 go_enter Tryz.func50,Tryz.ntmps50
 go_wp2_with fail
 go_ret
 exact ⟨_,sl,rfl,⟨rfl,hv⟩,TK.refl _ _ _,List.prefix_refl _,uh HH⟩
theorem ycx {w:World} {br b bud:Nat} {sl:List Nat} {st:Tw.RS} {ev:Value} {fr to:Nat} {v:Bool} (h:RunAt B w br bud sl st) (he:∃a,ev = .pointer a) (hb:w.heap[b]? = some (.cells #[.int .i64 fr,.int .i64 to,.bool v] 198 (0,0))) :
  Calls Tryz.prog 50 #[.pointer (some ⟨br,0,none⟩),.iface 195 (.pointer (some ⟨b,0,none⟩)),ev] w (EvPost B w br bud sl (some (.truth v),st)):=by
 obtain ⟨a,rfl⟩:=he
 have HH:=bV h
 obtain ⟨_,_,c2,_⟩:=zaf hb
 have q0:=zeu
 have q1:=zi4
 have q2:=zhd
 clear h hb
 go_enter Tryz.func50,Tryz.ntmps50
 go_wp2_with fail
 go_ret
 exact ⟨_,sl,rfl,rfl,TK.refl _ _ _,List.prefix_refl _,uh HH⟩
theorem yep {w:World} {br b bud:Nat} {sl:List Nat} {st:Tw.RS} {ev:Value} {fr to:Nat} {v:Bool} (h:RunAt B w br bud sl st) (he:∃a,ev = .pointer a) (hb:w.heap[b]? = some (.cells #[.int .i64 fr,.int .i64 to,.bool v] 201 (0,0))) :
  Calls Tryz.prog 50 #[.pointer (some ⟨br,0,none⟩),.iface 199 (.pointer (some ⟨b,0,none⟩)),ev] w (EvPost B w br bud sl (some (.side v),st)):=by
 obtain ⟨a,rfl⟩:=he
 have HH:=bV h
 obtain ⟨_,_,c2,_⟩:=zaf hb
 have q0:=zfi
 have q1:=zj0
 have q2:=zib
 have q3:=zi5
 clear h hb
 go_enter Tryz.func50,Tryz.ntmps50
 go_wp2_with fail
 go_ret
 exact ⟨_,sl,rfl,rfl,TK.refl _ _ _,List.prefix_refl _,uh HH⟩
theorem zxk {w:World} {br b bud:Nat} {sl:List Nat} {ev iv:Value} {fr to:Nat} {c:Option Tw.Val×Tw.RS} (he:∃a,ev = .pointer a) (hi:∃T n,iv = .iface T (.pointer (some ⟨n,0,none⟩))) (hb:w.heap[b]? = some (.cells #[.int .i64 fr,.int .i64 to,iv] 206 (0,0)))
  (hX:Calls Tryz.prog 50 #[.pointer (some ⟨br,0,none⟩),iv,ev] w (EvPost B w br bud sl c)) :
  Calls Tryz.prog 50 #[.pointer (some ⟨br,0,none⟩),.iface 204 (.pointer (some ⟨b,0,none⟩)),ev] w (EvPost B w br bud sl c):=by
 obtain ⟨a,rfl⟩:=he
 obtain ⟨T,k,rfl⟩:=hi
 have HX:=bV hX
 obtain ⟨_,_,c2,_⟩:=zaf hb
 have q0:=zd2
 have q1:=zhe
 have q2:=zfy
 have q3:=zgp
 have q4:=zdv
 clear hX hb
 go_enter Tryz.func50,Tryz.ntmps50
 go_wp2_with fail
 refine (uh HX).mono ?_
 rintro e1 w1 ⟨v,sl1,rfl,hx⟩
 have X:Hid (EvPost B w br bud sl c (.returned v) w1):=⟨v,sl1,rfl,hx⟩
 clear hx
 go_wp2_with fail
 go_ret
 exact X.out
theorem yfo {w:World} {br b bud hi:Nat} {sl:List Nat} {st:Tw.RS} {e:Tw.VEnv} {ev bv:Value} {fr to bat:Nat} {bn:List UInt8} {body:Tw.T} (h:RunAt B w br bud sl st) (he:ERep w sl e ev) (hb:w.heap[b]? = some (.cells #[.int .i64 fr,.int .i64 to,ug bn,.int .i64 bat,bv] 235 (0,0))) (hr:Rep w 0 hi body bv) :
  Calls Tryz.prog 50 #[.pointer (some ⟨br,0,none⟩),.iface 215 (.pointer (some ⟨b,0,none⟩)),ev] w (EvPost B w br bud sl (some (.clo fr to bn bat body e),st)):=by
 have HE:=bV he
 have HH:=bV h
 have HB:=bV hb
 have HR:=bV hr
 obtain ⟨a,rfl⟩:=he.ptr
 have q0:=zgi
 have q1:=zp8
 have q2:=zjb
 have q3:=zj7
 have q4:=zhi
 have q5:=zj8
 have q6:=zj9
 have q7:=zif
 have q8:=zn3
 have q9:=zdw
 clear h hb hr he
 go_enter Tryz.func50,Tryz.ntmps50
 go_wp2_with fail
 go_ret
 have G:=zwA w (.cells #[.pointer (some ⟨b,0,none⟩),.pointer a] 218) none
 exact ⟨_,sl,rfl,⟨_,b,_,bv,hi,rfl,zad w _,zbG G (uh HB),(uh HR).grown G (znL _) (znL _),(uh HE).tk (TK.of_grown 0 _ G) (List.prefix_refl _)⟩,TK.of_grown _ _ G,List.prefix_refl _,(uh HH).keep G⟩
theorem ya2 {n:Nat} (hE:zhu B n):zhu B (n+1):=by
 intro w br bud hi sl st t e tv ev r h hr he hf
 cases t with
 | name fr to x =>
  obtain ⟨b,_,_,rfl,hb⟩:=hr
  exact yem he.ptr (yaw h hb he hf)
 | int fr to v =>
  obtain ⟨b,_,_,rfl,hb⟩:=hr
  rw [Tw.zap] at hf
  split at hf
  ·rename_i hv
   cases hf
   exact yfn h he.ptr hb hv
  ·cases hf
 | truth fr to v =>
  obtain ⟨b,_,_,rfl,hb⟩:=hr
  cases hf
  exact ycx h he.ptr hb
 | side fr to v =>
  obtain ⟨b,_,_,rfl,hb⟩:=hr
  cases hf
  exact yep h he.ptr hb
 | bracket fr to i =>
  obtain ⟨v1,⟨b,_,_,rfl,hb⟩,r1⟩:=hr
  exact zxk he.ptr r1.iface hb (hE h r1 he hf)
 | pair fr to l q =>
  obtain ⟨v1,v2,⟨b,_,_,rfl,hb⟩,r1,r2⟩:=hr
  exact yen he.ptr (yax hE h hb r1 r2 he hf)
 | call fr to f a =>
  obtain ⟨v1,v2,⟨b,_,_,rfl,hb⟩,r1,r2⟩:=hr
  exact yeo he.ptr (ya0 hE h hb r1 r2 he hf)
 | binary fr to sg l q =>
  obtain ⟨v1,v2,⟨b,_,_,rfl,hb⟩,r1,r2⟩:=hr
  exact ya1 he.ptr (zut hE h hb r1 r2 he hf)
 | cond fr to c t f =>
  obtain ⟨v1,v2,v3,⟨b,_,_,rfl,hb⟩,r1,r2,r3⟩:=hr
  exact yfz he.ptr (zuu hE h hb r1 r2 r3 he hf)
 | fn fr to bn bat body =>
  obtain ⟨v1,⟨b,_,_,rfl,hb⟩,r1⟩:=hr
  cases hf
  exact yfo h he hb r1
 | lett fr to rc bn bat d x =>
  obtain ⟨v1,v2,⟨b,_,_,rfl,hb⟩,r1,r2⟩:=hr
  exact yfm he.ptr (ycw hE h hb r1 r2 he hf)
theorem zuv:∀n,zhu B n
 | 0=>fun _ _ _ hf=>by simp [Tw.zap] at hf
 | n+1=>ya2 (zuv n)
end Go.Proofs.YtckhafpejefbbaaGreatDoor
