/- Texts of the proof, put together: Gram5, Gram6, Gram7. -/
import Derived.Test.YtckhafpejefbbaaGreatDoorB06
import Derived.Deep.LoopGhost

set_option maxRecDepth 100000
set_option maxHeartbeats 4000000
namespace Go.Proofs.YtckhafpejefbbaaGreatDoor
open Go.RowKit
theorem bV {p:Prop} (h:p):Hid p:=h
theorem uh {p:Prop} (h:Hid p):p:=h
theorem zz0 {n:Nat} (hT:∀m,m<n->zbr 218 Tw.zci m):∀m,m<=n->zbr 218 (fun l ts m st=>Tw.zbc l ts m .term st) m:=by
 intro m hm w bp gt cap cur s ts st t st' h hf
 cases m with
 | zero=>simp [Tw.zbc] at hf
 | succ m=>simp only [Tw.zbc] at hf; exact hT m (by omega) h hf
theorem zwm {n:Nat} (hT:∀m,m<n->zbr 218 Tw.zci m) {w:World} {bp gt cap:Nat} {cur:Array Value} {s:ByteArray} {ts:List Tw.Tok} {st:Tw.PS} {t:Tw.T} {st':Tw.PS}
  (h:PCtx w bp gt cap cur s ts st) (hf0:Tw.zbf s.data.toList ts n .term [19,20] st=some (t,st')) :
  Calls Tryz.prog 217 #[.pointer (some ⟨bp,0,none⟩),.func (.func 218) #[.pointer (some ⟨bp,0,none⟩)] #[],.slice (some ⟨w.heap.size,0,none⟩) 2 2] (w.alloc (.cells #[.int .i64 19,.int .i64 20] 172)) (zgn w bp gt cap cur s ts t st'):=by
 cases n with
 | zero=>simp [Tw.zbf] at hf0
 | succ n =>
 rw [Tw.zbf] at hf0
 obtain ⟨⟨a,st1⟩,ha,hf1⟩:=zbE.1 hf0
 clear hf0
 simp only at hf1
 have hP:=zz0 hT
 have HP:=bV hP
 have HH:Hid (PCtx w bp gt cap cur s ts st):=h
 have H1:Hid (Tw.zbc s.data.toList ts n .term st=some (a,st1)):=ha
 have H2:Hid (Tw.zan s.data.toList ts n .term [19,20] a st1=some (t,st')):=hf1
 have hbp:=h.zeo
 have hgt:=h.zff
 clear h ha hf1 hP hT
 go_enter Tryz.func217,Tryz.ntmps217
 go_wp2_with fail
 refine (uh HP n (by omega) (HH.out.alloc _) H1.out).mono ?_
 rintro e w1 ⟨v,rfl,hk,h,r⟩
 have P1:Hid (PCtx w1 bp gt cap cur s ts st1):=h
 have K1:Hid (Keep bp w w1):=((Keep.refl bp w).alloc _).trans hk
 have z1:w.heap.size<w1.heap.size:=by have:=hk.size; simp at this; omega
 have G1:Hid (w1.heap[w.heap.size]? = some (.cells (zc3 [19,20]) 172 (0,0))):=hk.at (zad w _) (by omega)
 have R1:Hid (Rep w1 w.heap.size w1.heap.size a v):=r.wide (by simp) (znL _)
 clear hk h r
 go_wp2_with fail
 go_loopg [7] n (fun k lv wr=>∃left stk,k<=n/\Hid (PCtx wr bp gt cap cur s ts stk)/\Hid (Keep bp w wr)/\w.heap.size<wr.heap.size/\Hid (wr.heap[w.heap.size]? = some (.cells (zc3 [19,20]) 172 (0,0)))/\Hid (Rep wr w.heap.size wr.heap.size left lv)/\Hid (Tw.zan s.data.toList ts k .term [19,20] left stk=some (t,st')))
 case atStart=>exact ⟨a,st1,znL _,P1,K1,z1,G1,R1,H2⟩
 case round =>
  obtain ⟨left,stk,hkn,PR,KR,zr,GR,RR,HR⟩:=hrel
  cases gk with
  | zero=>have:=HR.out; simp [Tw.zan] at this
  | succ k =>
  have HR2:=HR.out
  rw [Tw.zan] at HR2
  obtain ⟨⟨sg,st2⟩,hsg,hf2⟩:=zbE.1 HR2
  clear HR2 HR P1 K1 G1 R1 H2
  simp only at hf2
  have H3:Hid (Tw.zao ts [19,20] stk=some (sg,st2)):=hsg
  clear hsg
  by_cases hz:sg=0
  ·rw [if_pos hz] at hf2
   simp only [zsI,zpI] at hf2
   obtain ⟨rfl,rfl⟩:=hf2
   have bz:(sg==0)=true:=by simp [hz]
   clear hz
   go_wp2_with fail
   refine (ze7 PR.out [19,20] w.heap.size (by simp) GR.out (by omega) H3.out).mono ?_
   rintro e w2 ⟨rfl,hk,h⟩
   have hz2:=hk.size
   have X:Hid (Keep bp w w2/\PCtx w2 bp gt cap cur s ts st2/\Rep w2 w.heap.size w2.heap.size left u7):=⟨KR.out.trans hk,h,RR.out.keep hk hbp (znL _) (by omega)⟩
   clear hk h
   go_wp2_with fail
   go_ret
   exact ⟨_,rfl,X.out⟩
  ·rw [if_neg hz] at hf2
   obtain ⟨⟨b,st3⟩,hb,hf3⟩:=zbE.1 hf2
   clear hf2
   simp only at hf3
   have H4:Hid (Tw.zbc s.data.toList ts k .term st2=some (b,st3)):=hb
   have H5:Hid (Tw.zan s.data.toList ts k .term [19,20] (.binary left.fr b.to sg left b) st3=some (t,st')):=hf3
   have bz:(sg==0)=false:=by simp [hz]
   clear hz hb hf3
   go_wp2_with fail
   refine (ze7 PR.out [19,20] w.heap.size (by simp) GR.out (by omega) H3.out).mono ?_
   rintro e w2 ⟨rfl,hk,h⟩
   have P2:Hid (PCtx w2 bp gt cap cur s ts st2):=h
   have K2:Hid (Keep bp w w2):=KR.out.trans hk
   have z2:=hk.size
   have R2:Hid (Rep w2 w.heap.size w2.heap.size left u7):=RR.out.keep hk hbp (znL _) (by omega)
   have G2:Hid (w2.heap[w.heap.size]? = some (.cells (zc3 [19,20]) 172 (0,0))):=hk.at GR.out (by omega)
   clear hk h
   go_wp2_with fail
   refine (uh HP k (by omega) P2.out H4.out).mono ?_
   rintro e w3 ⟨v2,rfl,hk,h,r⟩
   have P3:Hid (PCtx w3 bp gt cap cur s ts st3):=h
   have K3:Hid (Keep bp w w3):=K2.out.trans hk
   have z3:=hk.size
   have R3:Hid (Rep w3 w.heap.size w3.heap.size left u7):=R2.out.keep hk hbp (znL _) (by omega)
   have R3b:Hid (Rep w3 w.heap.size w3.heap.size b v2):=r.wide (by omega) (znL _)
   have G3:Hid (w3.heap[w.heap.size]? = some (.cells (zc3 [19,20]) 172 (0,0))):=hk.at G2.out (by omega)
   clear hk h r
   go_wp2_with fail
   refine (zl1 w3 sg R3.out R3b.out (by omega) (znL _)).mono ?_
   rintro e w4 ⟨v3,rfl,hg,r⟩
   have P4:Hid (PCtx w4 bp gt cap cur s ts st3):=P3.out.kept hg
   have K4:Hid (Keep bp w w4):=K3.out.trans (Keep.of_none hg)
   have R4:Hid (Rep w4 w.heap.size w4.heap.size (.binary left.fr b.to sg left b) v3):=r
   have z4:=hg.size
   have G4:Hid (w4.heap[w.heap.size]? = some (.cells (zc3 [19,20]) 172 (0,0))):=(Keep.of_none (bp:=bp) hg).at G3.out (by omega)
   clear hg r
   go_wp2_with fail
   go_roundg k
   case measure=>omega
   case rel=>exact ⟨_,_,by omega,P4,K4,by omega,G4,R4,H5⟩
theorem zz1 {n:Nat} (hT:∀m,m<n->zbr 225 Tw.zcc m):∀m,m<=n->zbr 225 (fun l ts m st=>Tw.zbc l ts m .call st) m:=by
 intro m hm w bp gt cap cur s ts st t st' h hf
 cases m with
 | zero=>simp [Tw.zbc] at hf
 | succ m=>simp only [Tw.zbc] at hf; exact hT m (by omega) h hf
theorem zwn {n:Nat} (hT:∀m,m<n->zbr 225 Tw.zcc m) {w:World} {bp gt cap:Nat} {cur:Array Value} {s:ByteArray} {ts:List Tw.Tok} {st:Tw.PS} {t:Tw.T} {st':Tw.PS}
  (h:PCtx w bp gt cap cur s ts st) (hf0:Tw.zbf s.data.toList ts n .call [21,22] st=some (t,st')) :
  Calls Tryz.prog 217 #[.pointer (some ⟨bp,0,none⟩),.func (.func 225) #[.pointer (some ⟨bp,0,none⟩)] #[],.slice (some ⟨w.heap.size,0,none⟩) 2 2] (w.alloc (.cells #[.int .i64 21,.int .i64 22] 172)) (zgn w bp gt cap cur s ts t st'):=by
 cases n with
 | zero=>simp [Tw.zbf] at hf0
 | succ n =>
 rw [Tw.zbf] at hf0
 obtain ⟨⟨a,st1⟩,ha,hf1⟩:=zbE.1 hf0
 clear hf0
 simp only at hf1
 have hP:=zz1 hT
 have HP:=bV hP
 have HH:Hid (PCtx w bp gt cap cur s ts st):=h
 have H1:Hid (Tw.zbc s.data.toList ts n .call st=some (a,st1)):=ha
 have H2:Hid (Tw.zan s.data.toList ts n .call [21,22] a st1=some (t,st')):=hf1
 have hbp:=h.zeo
 have hgt:=h.zff
 clear h ha hf1 hP hT
 go_enter Tryz.func217,Tryz.ntmps217
 go_wp2_with fail
 refine (uh HP n (by omega) (HH.out.alloc _) H1.out).mono ?_
 rintro e w1 ⟨v,rfl,hk,h,r⟩
 have P1:Hid (PCtx w1 bp gt cap cur s ts st1):=h
 have K1:Hid (Keep bp w w1):=((Keep.refl bp w).alloc _).trans hk
 have z1:w.heap.size<w1.heap.size:=by have:=hk.size; simp at this; omega
 have G1:Hid (w1.heap[w.heap.size]? = some (.cells (zc3 [21,22]) 172 (0,0))):=hk.at (zad w _) (by omega)
 have R1:Hid (Rep w1 w.heap.size w1.heap.size a v):=r.wide (by simp) (znL _)
 clear hk h r
 go_wp2_with fail
 go_loopg [7] n (fun k lv wr=>∃left stk,k<=n/\Hid (PCtx wr bp gt cap cur s ts stk)/\Hid (Keep bp w wr)/\w.heap.size<wr.heap.size/\Hid (wr.heap[w.heap.size]? = some (.cells (zc3 [21,22]) 172 (0,0)))/\Hid (Rep wr w.heap.size wr.heap.size left lv)/\Hid (Tw.zan s.data.toList ts k .call [21,22] left stk=some (t,st')))
 case atStart=>exact ⟨a,st1,znL _,P1,K1,z1,G1,R1,H2⟩
 case round =>
  obtain ⟨left,stk,hkn,PR,KR,zr,GR,RR,HR⟩:=hrel
  cases gk with
  | zero=>have:=HR.out; simp [Tw.zan] at this
  | succ k =>
  have HR2:=HR.out
  rw [Tw.zan] at HR2
  obtain ⟨⟨sg,st2⟩,hsg,hf2⟩:=zbE.1 HR2
  clear HR2 HR P1 K1 G1 R1 H2
  simp only at hf2
  have H3:Hid (Tw.zao ts [21,22] stk=some (sg,st2)):=hsg
  clear hsg
  by_cases hz:sg=0
  ·rw [if_pos hz] at hf2
   simp only [zsI,zpI] at hf2
   obtain ⟨rfl,rfl⟩:=hf2
   have bz:(sg==0)=true:=by simp [hz]
   clear hz
   go_wp2_with fail
   refine (ze7 PR.out [21,22] w.heap.size (by simp) GR.out (by omega) H3.out).mono ?_
   rintro e w2 ⟨rfl,hk,h⟩
   have hz2:=hk.size
   have X:Hid (Keep bp w w2/\PCtx w2 bp gt cap cur s ts st2/\Rep w2 w.heap.size w2.heap.size left u7):=⟨KR.out.trans hk,h,RR.out.keep hk hbp (znL _) (by omega)⟩
   clear hk h
   go_wp2_with fail
   go_ret
   exact ⟨_,rfl,X.out⟩
  ·rw [if_neg hz] at hf2
   obtain ⟨⟨b,st3⟩,hb,hf3⟩:=zbE.1 hf2
   clear hf2
   simp only at hf3
   have H4:Hid (Tw.zbc s.data.toList ts k .call st2=some (b,st3)):=hb
   have H5:Hid (Tw.zan s.data.toList ts k .call [21,22] (.binary left.fr b.to sg left b) st3=some (t,st')):=hf3
   have bz:(sg==0)=false:=by simp [hz]
   clear hz hb hf3
   go_wp2_with fail
   refine (ze7 PR.out [21,22] w.heap.size (by simp) GR.out (by omega) H3.out).mono ?_
   rintro e w2 ⟨rfl,hk,h⟩
   have P2:Hid (PCtx w2 bp gt cap cur s ts st2):=h
   have K2:Hid (Keep bp w w2):=KR.out.trans hk
   have z2:=hk.size
   have R2:Hid (Rep w2 w.heap.size w2.heap.size left u7):=RR.out.keep hk hbp (znL _) (by omega)
   have G2:Hid (w2.heap[w.heap.size]? = some (.cells (zc3 [21,22]) 172 (0,0))):=hk.at GR.out (by omega)
   clear hk h
   go_wp2_with fail
   refine (uh HP k (by omega) P2.out H4.out).mono ?_
   rintro e w3 ⟨v2,rfl,hk,h,r⟩
   have P3:Hid (PCtx w3 bp gt cap cur s ts st3):=h
   have K3:Hid (Keep bp w w3):=K2.out.trans hk
   have z3:=hk.size
   have R3:Hid (Rep w3 w.heap.size w3.heap.size left u7):=R2.out.keep hk hbp (znL _) (by omega)
   have R3b:Hid (Rep w3 w.heap.size w3.heap.size b v2):=r.wide (by omega) (znL _)
   have G3:Hid (w3.heap[w.heap.size]? = some (.cells (zc3 [21,22]) 172 (0,0))):=hk.at G2.out (by omega)
   clear hk h r
   go_wp2_with fail
   refine (zl1 w3 sg R3.out R3b.out (by omega) (znL _)).mono ?_
   rintro e w4 ⟨v3,rfl,hg,r⟩
   have P4:Hid (PCtx w4 bp gt cap cur s ts st3):=P3.out.kept hg
   have K4:Hid (Keep bp w w4):=K3.out.trans (Keep.of_none hg)
   have R4:Hid (Rep w4 w.heap.size w4.heap.size (.binary left.fr b.to sg left b) v3):=r
   have z4:=hg.size
   have G4:Hid (w4.heap[w.heap.size]? = some (.cells (zc3 [21,22]) 172 (0,0))):=(Keep.of_none (bp:=bp) hg).at G3.out (by omega)
   clear hg r
   go_wp2_with fail
   go_roundg k
   case measure=>omega
   case rel=>exact ⟨_,_,by omega,P4,K4,by omega,G4,R4,H5⟩
theorem yb8 {n:Nat} (hT:∀m,m<n->zbr 218 Tw.zci m):zbr 206 Tw.sumS (n+1):=by
 intro w bp gt cap cur s ts st t st' h hf0
 rw [Tw.sumS] at hf0
 have HH:Hid (PCtx w bp gt cap cur s ts st):=h
 have H1:Hid (Tw.zbf s.data.toList ts n .term [19,20] st=some (t,st')):=hf0
 have HT:=bV hT
 clear h hf0 hT
 have hmf:∀(fn:Fn) (first cap:Array Value) (w:World),(Instr.makeFunc fn first cap).run Tryz.prog w = .ok (.func fn first cap) w:=fun _ _ _ _=>rfl
 go_enter Tryz.func206,Tryz.ntmps206
 go_wp2_with fail
 refine (zwm (uh HT) HH.out H1.out).mono ?_
 rintro e w1 ⟨v,rfl,hX⟩
 have X:Hid (Keep bp w w1/\PCtx w1 bp gt cap cur s ts st'/\Rep w1 w.heap.size w1.heap.size t v):=hX
 clear hX
 go_wp2_with fail
 go_ret
 exact ⟨_,rfl,X.out⟩
theorem zz2 {n:Nat} (hT:∀m,m<n->zbr 225 Tw.zcc m):zbr 218 Tw.zci (n+1):=by
 intro w bp gt cap cur s ts st t st' h hf0
 rw [Tw.zci] at hf0
 have HH:Hid (PCtx w bp gt cap cur s ts st):=h
 have H1:Hid (Tw.zbf s.data.toList ts n .call [21,22] st=some (t,st')):=hf0
 have HT:=bV hT
 clear h hf0 hT
 have hmf:∀(fn:Fn) (first cap:Array Value) (w:World),(Instr.makeFunc fn first cap).run Tryz.prog w = .ok (.func fn first cap) w:=fun _ _ _ _=>rfl
 go_enter Tryz.func218,Tryz.ntmps218
 go_wp2_with fail
 refine (zwn (uh HT) HH.out H1.out).mono ?_
 rintro e w1 ⟨v,rfl,hX⟩
 have X:Hid (Keep bp w w1/\PCtx w1 bp gt cap cur s ts st'/\Rep w1 w.heap.size w1.heap.size t v):=hX
 clear hX
 go_wp2_with fail
 go_ret
 exact ⟨_,rfl,X.out⟩
open Go.RowKit
theorem zz3 {n:Nat} (hA:∀m,m<=n->zbr 233 Tw.zbv m):zbr 225 Tw.zcc (n+1):=by
 intro w bp gt cap cur s ts st t st' h hf0
 rw [Tw.zcc] at hf0
 obtain ⟨⟨a,st1⟩,ha,hf1⟩:=zbE.1 hf0
 clear hf0
 simp only at hf1
 have HA:=bV hA
 have HH:Hid (PCtx w bp gt cap cur s ts st):=h
 have H1:Hid (Tw.zbv s.data.toList ts n st=some (a,st1)):=ha
 have H2:Hid (Tw.zar s.data.toList ts n a st1=some (t,st')):=hf1
 have hbp:=h.zeo
 have hgt:=h.zff
 have fd:=zf7
 have fe:=zre
 clear h ha hf1 hA
 go_enter Tryz.func225,Tryz.ntmps225
 go_wp2_with fail
 refine (uh HA n (znL _) HH.out H1.out).mono ?_
 rintro e w1 ⟨v,rfl,hk,h,r⟩
 have P1:Hid (PCtx w1 bp gt cap cur s ts st1):=h
 have K1:Hid (Keep bp w w1):=hk
 have z1:w.heap.size<=w1.heap.size:=hk.size
 have R1:Hid (Rep w1 w.heap.size w1.heap.size a v):=r
 clear hk h r
 go_wp2_with fail
 go_loopg [3] n (fun k lv wr=>∃left stk,k<=n/\Hid (PCtx wr bp gt cap cur s ts stk)/\Hid (Keep bp w wr)/\w.heap.size<=wr.heap.size/\Hid (Rep wr w.heap.size wr.heap.size left lv)/\Hid (Tw.zar s.data.toList ts k left stk=some (t,st')))
 case atStart=>exact ⟨a,st1,znL _,P1,K1,z1,R1,H2⟩
 case round =>
  obtain ⟨left,stk,hkn,PR,KR,zr,RR,HR⟩:=hrel
  cases gk with
  | zero=>have:=HR.out; simp [Tw.zar] at this
  | succ k =>
  have HR2:=HR.out
  rw [Tw.zar] at HR2
  obtain ⟨tk,htk,hf2⟩:=zbE.1 HR2
  clear HR2 HR P1 K1 R1 H2
  have H3:Hid (Tw.tokS ts stk=some tk):=htk
  clear htk
  cases hba:Tw.zal tk.sort
  ·rw [hba] at hf2
   simp only [Bool.false_eq_true,if_false,zsI,zpI] at hf2
   obtain ⟨rfl,rfl⟩:=hf2
   have HB:Hid (Tw.zal tk.sort=false):=hba
   clear hba
   go_wp2_with fail
   refine (zbo PR.out H3.out).mono ?_
   rintro e w2 ⟨rfl,hg⟩
   have X:Hid (Keep bp w w2/\PCtx w2 bp gt cap cur s ts stk/\Rep w2 w.heap.size w2.heap.size left u3):=⟨KR.out.trans (Keep.of_none hg),PR.out.kept hg,RR.out.grown hg (znL _) hg.size⟩
   clear hg
   go_wp2_with fail
   refine (zb5 _ _).mono ?_
   rintro e w3 ⟨rfl,rfl⟩
   rw [HB.out]
   go_wp2_with fail
   go_ret
   exact ⟨_,rfl,X.out⟩
  ·rw [hba] at hf2
   simp only [if_true] at hf2
   obtain ⟨⟨b,st3⟩,hb,hf3⟩:=zbE.1 hf2
   clear hf2
   simp only at hf3
   have H4:Hid (Tw.zbv s.data.toList ts k stk=some (b,st3)):=hb
   have H5:Hid (Tw.zar s.data.toList ts k (.call left.fr b.to left b) st3=some (t,st')):=hf3
   have HB:Hid (Tw.zal tk.sort=true):=hba
   clear hba hb hf3
   go_wp2_with fail
   refine (zbo PR.out H3.out).mono ?_
   rintro e w2 ⟨rfl,hg⟩
   have P2:Hid (PCtx w2 bp gt cap cur s ts stk):=PR.out.kept hg
   have K2:Hid (Keep bp w w2):=KR.out.trans (Keep.of_none hg)
   have R2:Hid (Rep w2 w.heap.size w2.heap.size left u3):=RR.out.grown hg (znL _) hg.size
   have z2:=hg.size
   clear hg
   go_wp2_with fail
   refine (zb5 _ _).mono ?_
   rintro e w3 ⟨rfl,rfl⟩
   rw [HB.out]
   go_wp2_with fail
   refine (uh HA k (by omega) P2.out H4.out).mono ?_
   rintro e w4 ⟨v2,rfl,hk,h,r⟩
   have P4:Hid (PCtx w4 bp gt cap cur s ts st3):=h
   have K4:Hid (Keep bp w w4):=K2.out.trans hk
   have z4:=hk.size
   have R4:Rep w4 w.heap.size w4.heap.size left u3:=R2.out.keep hk hbp (znL _) (by omega)
   have R4b:Rep w4 w.heap.size w4.heap.size b v2:=r.wide (by omega) (znL _)
   clear hk h r
   obtain ⟨b1,_,hb1,hv1,c0,c1⟩:=R4.node
   have hp:=zg3 left b1 w4 left.fr left.to c0 c1
   obtain ⟨b2,_,_,hv2,_,_⟩:=R4b.node
   generalize ptrT left=T1 at hv1 hp
   generalize ptrT b=T2 at hv2
   rw [hv1] at R4
   rw [hv2] at R4b
   have R4':Hid (Rep w4 w.heap.size w4.heap.size left (.iface T1 (.pointer (some ⟨b1,0,none⟩)))):=R4
   have R4b':Hid (Rep w4 w.heap.size w4.heap.size b (.iface T2 (.pointer (some ⟨b2,0,none⟩)))):=R4b
   clear R4 R4b RR R2
   subst hv1 hv2
   go_wp2_with fail
   refine (ze8 _ _ _).mono ?_
   rintro e w5 ⟨rfl,hg⟩
   have G5:Hid (w4.grownBy w5 none):=hg
   clear hg
   go_wp2_with fail
   refine (zge _ _ (R4b'.out.grown G5.out (znL _) (znL _))).mono ?_
   rintro e w6 ⟨rfl,hg⟩
   have G6:Hid (w4.grownBy w6 none):=zaa G5.out hg
   have z6:=(zaa G5.out hg).size
   clear hg
   go_wp2_with fail
   go_roundg k
   case measure=>omega
   case rel =>
    go_light
    refine ⟨_,_,by omega,(P4.out.kept G6.out).alloc _,(K4.out.trans (Keep.of_none G6.out)).alloc _,by simp; omega,?_,H5⟩
    exact ⟨_,_,⟨w6.heap.size,by omega,by simp,rfl,zad w6 _⟩,R4'.out.grown (zae G6.out _) (znL _) (by simp; omega),R4b'.out.grown (zae G6.out _) (znL _) (by simp; omega)⟩
open Go.RowKit
theorem zsz {n:Nat} (hE:zbr 81 Tw.za6 n) {w:World} {bp gt cap:Nat} {cur:Array Value} {s:ByteArray} {ts:List Tw.Tok} {st:Tw.PS}
  (h:PCtx w bp gt cap cur s ts st) {bfr:Nat} {st1 st2 st3 st4 st5 st6:Tw.PS} {x y:Tw.T} {c:Int} {r:Tw.Tok} (hb:Tw.zce ts 16 st=some (bfr,st1)) (hx:Tw.za6 s.data.toList ts n st1=some (x,st2)) (hc:Tw.zao ts [18] st2=some (c,st3)) (bc:(c==18)=true)
  (hy:Tw.za6 s.data.toList ts n st3=some (y,st4)) (hr:Tw.zbe ts 17 st4=some (r,st5)) (he:Tw.endS st5=some st6) :
  Calls Tryz.prog 237 #[.pointer (some ⟨bp,0,none⟩)] w (zgn w bp gt cap cur s ts (.pair bfr r.to x y) st6):=by
 have HH:Hid (PCtx w bp gt cap cur s ts st):=h
 have H1:Hid (Tw.zce ts 16 st=some (bfr,st1)):=hb
 have H2:Hid (Tw.za6 s.data.toList ts n st1=some (x,st2)):=hx
 have H3:Hid (Tw.zao ts [18] st2=some (c,st3)):=hc
 have H4:Hid (Tw.za6 s.data.toList ts n st3=some (y,st4)):=hy
 have H5:Hid (Tw.zbe ts 17 st4=some (r,st5)):=hr
 have H6:Hid (Tw.endS st5=some st6):=he
 have hbp:=h.zeo
 have hgt:=h.zff
 have fd:=zsq
 clear h hb hx hc hy hr he
 go_enter_defers Tryz.func237,Tryz.ntmps237
 go_wp2_with fail
 refine (zio HH.out _ H1.out).mono ?_
 rintro e w1 ⟨rfl,hk,h⟩
 have P1:Hid (PCtx w1 bp gt cap cur s ts st1):=h
 have K1:Hid (Keep bp w w1):=hk
 have z1:w.heap.size<=w1.heap.size:=hk.size
 clear hk h
 go_wp2_with fail
 refine (hE P1.out H2.out).mono ?_
 rintro e w2 ⟨v,rfl,hk,h,r⟩
 have P2:Hid (PCtx w2 bp gt cap cur s ts st2):=h
 have K2:Hid (Keep bp w w2):=K1.out.trans hk
 have z2:w1.heap.size<=w2.heap.size:=hk.size
 obtain ⟨b1,_,_,hv,_,_⟩:=r.node
 generalize ptrT x=T1 at hv
 subst hv
 have R2:Hid (Rep w2 w1.heap.size w2.heap.size x (.iface T1 (.pointer (some ⟨b1,0,none⟩)))):=r
 clear hk h r P1 K1
 go_wp2_with fail
 refine (zrf P2.out 18 H3.out).mono ?_
 rintro e w3 ⟨rfl,⟨hk,hz⟩,h⟩
 have P3:Hid (PCtx w3 bp gt cap cur s ts st3):=h
 have K3:Hid (Keep bp w w3):=K2.out.trans hk
 have R3:Hid (Rep w3 w1.heap.size w2.heap.size x (.iface T1 (.pointer (some ⟨b1,0,none⟩)))):=R2.out.keep hk (by omega) (znL _) (znL _)
 clear hk h P2 K2 R2
 go_wp2_with fail
 refine (hE P3.out H4.out).mono ?_
 rintro e w4 ⟨v,rfl,hk,h,r4⟩
 have P4:Hid (PCtx w4 bp gt cap cur s ts st4):=h
 have K4:Hid (Keep bp w w4):=K3.out.trans hk
 have z4:w3.heap.size<=w4.heap.size:=hk.size
 have R4x:Hid (Rep w4 w1.heap.size w2.heap.size x (.iface T1 (.pointer (some ⟨b1,0,none⟩)))):=R3.out.keep hk (by omega) (znL _) (znL _)
 obtain ⟨b2,_,_,hv,_,_⟩:=r4.node
 generalize ptrT y=T2 at hv
 subst hv
 have R4:Hid (Rep w4 w3.heap.size w4.heap.size y (.iface T2 (.pointer (some ⟨b2,0,none⟩)))):=r4
 clear hk h r4 P3 K3 R3
 go_wp2_with fail
 refine (zb4 P4.out _ H5.out).mono ?_
 rintro e w5 ⟨rfl,hk,h⟩
 have P5:Hid (PCtx w5 bp gt cap cur s ts st5):=h
 have K5:Hid (Keep bp w w5):=K4.out.trans hk
 have z5:w4.heap.size<=w5.heap.size:=hk.size
 have R5x:Hid (Rep w5 w1.heap.size w2.heap.size x (.iface T1 (.pointer (some ⟨b1,0,none⟩)))):=R4x.out.keep hk (by omega) (znL _) (znL _)
 have R5:Hid (Rep w5 w3.heap.size w4.heap.size y (.iface T2 (.pointer (some ⟨b2,0,none⟩)))):=R4.out.keep hk (by omega) (znL _) (znL _)
 clear hk h P4 K4 R4 R4x
 go_wp2_with fail
 refine leaves_cons (f:=202) (args:=#[.pointer (some ⟨bp,0,none⟩)]) (by simp) (by simp [go_sem]) ?_
 refine (zfg ((P5.out.alloc _).alloc _) .returning H6.out).mono ?_
 rintro e u' w9 ⟨rfl,rfl,hk9,h9⟩
 refine ⟨_,results_tmp rfl _ _ _,?_⟩
 go_light
 refine ⟨_,rfl,((K5.out.alloc _).alloc _).trans hk9,h9,?_⟩
 have z9:=hk9.size
 simp at z9
 have G:=zae (zwA w5 (.cells #[.int .i64 bfr,.int .i64 r.to] 85) none) (.cells #[.int .i64 bfr,.int .i64 r.to,.iface T1 (.pointer (some ⟨b1,0,none⟩)),.iface T2 (.pointer (some ⟨b2,0,none⟩))] 229)
 have NW:=zad (w5.alloc (.cells #[.int .i64 bfr,.int .i64 r.to] 85)) (.cells #[.int .i64 bfr,.int .i64 r.to,.iface T1 (.pointer (some ⟨b1,0,none⟩)),.iface T2 (.pointer (some ⟨b2,0,none⟩))] 229)
 rw [show (w5.alloc (.cells #[.int .i64 bfr,.int .i64 r.to] 85)).heap.size=w5.heap.size+1 from by simp] at NW
 exact ⟨_,_,⟨w5.heap.size+1,by omega,by omega,rfl,hk9.at NW (by omega)⟩,
  (R5x.out.grown G (znL _) (znL _)).keep hk9 (by omega) (by omega) (by omega),
  (R5.out.grown G (znL _) (znL _)).keep hk9 (by omega) (by omega) (by omega)⟩
theorem zua {n:Nat} (hE:zbr 81 Tw.za6 n) {w:World} {bp gt cap:Nat} {cur:Array Value} {s:ByteArray} {ts:List Tw.Tok} {st:Tw.PS}
  (h:PCtx w bp gt cap cur s ts st) {bfr:Nat} {st1 st2 st3 st5 st6:Tw.PS} {x:Tw.T} {c:Int} {r:Tw.Tok} (hb:Tw.zce ts 16 st=some (bfr,st1)) (hx:Tw.za6 s.data.toList ts n st1=some (x,st2)) (hc:Tw.zao ts [18] st2=some (c,st3)) (bc:(c==18)=false)
  (hr:Tw.zbe ts 17 st3=some (r,st5)) (he:Tw.endS st5=some st6) :
  Calls Tryz.prog 237 #[.pointer (some ⟨bp,0,none⟩)] w (zgn w bp gt cap cur s ts (.bracket bfr r.to x) st6):=by
 have HH:Hid (PCtx w bp gt cap cur s ts st):=h
 have H1:Hid (Tw.zce ts 16 st=some (bfr,st1)):=hb
 have H2:Hid (Tw.za6 s.data.toList ts n st1=some (x,st2)):=hx
 have H3:Hid (Tw.zao ts [18] st2=some (c,st3)):=hc
 have H5:Hid (Tw.zbe ts 17 st3=some (r,st5)):=hr
 have H6:Hid (Tw.endS st5=some st6):=he
 have hbp:=h.zeo
 have hgt:=h.zff
 have fd:=zsq
 clear h hb hx hc hr he
 go_enter_defers Tryz.func237,Tryz.ntmps237
 go_wp2_with fail
 refine (zio HH.out _ H1.out).mono ?_
 rintro e w1 ⟨rfl,hk,h⟩
 have P1:Hid (PCtx w1 bp gt cap cur s ts st1):=h
 have K1:Hid (Keep bp w w1):=hk
 have z1:w.heap.size<=w1.heap.size:=hk.size
 clear hk h
 go_wp2_with fail
 refine (hE P1.out H2.out).mono ?_
 rintro e w2 ⟨v,rfl,hk,h,r⟩
 have P2:Hid (PCtx w2 bp gt cap cur s ts st2):=h
 have K2:Hid (Keep bp w w2):=K1.out.trans hk
 have z2:w1.heap.size<=w2.heap.size:=hk.size
 obtain ⟨b1,_,_,hv,_,_⟩:=r.node
 generalize ptrT x=T1 at hv
 subst hv
 have R2:Hid (Rep w2 w1.heap.size w2.heap.size x (.iface T1 (.pointer (some ⟨b1,0,none⟩)))):=r
 clear hk h r P1 K1
 go_wp2_with fail
 refine (zrf P2.out 18 H3.out).mono ?_
 rintro e w3 ⟨rfl,⟨hk,hz⟩,h⟩
 have P3:Hid (PCtx w3 bp gt cap cur s ts st3):=h
 have K3:Hid (Keep bp w w3):=K2.out.trans hk
 have R3:Hid (Rep w3 w1.heap.size w2.heap.size x (.iface T1 (.pointer (some ⟨b1,0,none⟩)))):=R2.out.keep hk (by omega) (znL _) (znL _)
 clear hk h P2 K2 R2
 go_wp2_with fail
 refine (zb4 P3.out _ H5.out).mono ?_
 rintro e w5 ⟨rfl,hk,h⟩
 have P5:Hid (PCtx w5 bp gt cap cur s ts st5):=h
 have K5:Hid (Keep bp w w5):=K3.out.trans hk
 have z5:w3.heap.size<=w5.heap.size:=hk.size
 have R5x:Hid (Rep w5 w1.heap.size w2.heap.size x (.iface T1 (.pointer (some ⟨b1,0,none⟩)))):=R3.out.keep hk (by omega) (znL _) (znL _)
 clear hk h P3 K3 R3
 go_wp2_with fail
 refine leaves_cons (f:=202) (args:=#[.pointer (some ⟨bp,0,none⟩)]) (by simp) (by simp [go_sem]) ?_
 refine (zfg (P5.out.alloc _) .returning H6.out).mono ?_
 rintro e u' w9 ⟨rfl,rfl,hk9,h9⟩
 refine ⟨_,results_tmp rfl _ _ _,?_⟩
 go_light
 refine ⟨_,rfl,(K5.out.alloc _).trans hk9,h9,?_⟩
 have z9:=hk9.size
 simp at z9
 have G:=zwA w5 (.cells #[.int .i64 bfr,.int .i64 r.to,.iface T1 (.pointer (some ⟨b1,0,none⟩))] 206) none
 exact ⟨_,⟨w5.heap.size,by omega,by omega,rfl,hk9.at (zad w5 _) (by omega)⟩,
  (R5x.out.grown G (znL _) (znL _)).keep hk9 (by omega) (by omega) (by omega)⟩
theorem zs0 {n:Nat} (hE:zbr 81 Tw.za6 n):zbr 237 Tw.za0 (n+1):=by
 intro w bp gt cap cur s ts st t st' h hf0
 rw [Tw.za0] at hf0
 obtain ⟨⟨bfr,st1⟩,hb,hf1⟩:=zbE.1 hf0
 obtain ⟨⟨x,st2⟩,hx,hf2⟩:=zbE.1 hf1
 obtain ⟨⟨c,st3⟩,hc,hf3⟩:=zbE.1 hf2
 simp only at hx hc hf3
 by_cases h18:c=18
 ·rw [if_pos h18] at hf3
  obtain ⟨⟨y,st4⟩,hy,hf4⟩:=zbE.1 hf3
  obtain ⟨⟨r,st5⟩,hr,hf5⟩:=zbE.1 hf4
  obtain ⟨st6,he,hf6⟩:=zbE.1 hf5
  simp only [zsI,zpI] at hf6
  obtain ⟨rfl,rfl⟩:=hf6
  exact zsz hE h hb hx hc (by simp [h18]) hy hr he
 ·rw [if_neg h18] at hf3
  obtain ⟨⟨r,st5⟩,hr,hf5⟩:=zbE.1 hf3
  obtain ⟨st6,he,hf6⟩:=zbE.1 hf5
  simp only [zsI,zpI] at hf6
  obtain ⟨rfl,rfl⟩:=hf6
  exact zua hE h hb hx hc (by simp [h18]) hr he
end Go.Proofs.YtckhafpejefbbaaGreatDoor
