/- Texts of the proof, put together: RunShow, RunText, LexThy, StuckThy, ParseTot, LexTot, EmbThy, EmbThy2, ReThy, DeepThy, PlcThy, Bound, RecThy, RecRun, Keep, Digits, RecFine, RecWalk, PlcWalk. -/
import Derived.Test.YtckhafpejefbbaaGreatDoorB14
import Derived.Lib.LaidTab
import Derived.Lib.Small
import Derived.Test.YtckhafpejefbbaaGreatDoorB13
import Derived.Test.YtckhafpejefbbaaGreatDoorB03
import Derived.Test.YtckhafpejefbbaaGreatDoorB04
import Derived.Test.YtckhafpejefbbaaGreatDoorB09
import Derived.Test.YtckhafpejefbbaaGreatDoorB11
import Derived.Deep.RegionHeld3

set_option maxRecDepth 100000
set_option maxHeartbeats 4000000
namespace Go.Proofs.YtckhafpejefbbaaGreatDoor
open Go.RowKit
variable {B : Nat}
theorem zqm (p:Value) (w:World):Sem.run Tryz.prog (Instr.typeAssert (.iface 196 p) 119 196 true) w = .ok (.tuple #[p,.bool true]) w:=by kernel_rfl
theorem zrr (p:Value) (w:World):Sem.run Tryz.prog (Instr.typeAssert (.iface 203 p) 119 196 true) w = .ok (.tuple #[.bool false,.bool false]) w:=by kernel_rfl
theorem zrs (p:Value) (w:World):Sem.run Tryz.prog (Instr.typeAssert (.iface 315 p) 119 196 true) w = .ok (.tuple #[.bool false,.bool false]) w:=by kernel_rfl
theorem ztb (p:Value) (w:World):Sem.run Tryz.prog (Instr.typeAssert (.iface 216 p) 119 196 true) w = .ok (.tuple #[.bool false,.bool false]) w:=by kernel_rfl
def Tab (w:World):Prop:=Lib.TabIs Tryz.prog w "internal/strconv.uint64pow10" .u64 Lib.pow10Tab
def Said.FormatInt:Prop:=∀(n:Int) (_ : -9223372036854775808<=n) (_:n<=9223372036854775807) (w:World) (_:Tab w),
 Calls Tryz.prog 173 #[.int .i64 n,.int .i64 10] w fun e w'=>e = .returned (ug (Lib.itoa n))/\w.grownBy w' none
def Said.FormatBool:Prop:=∀(b:Bool) (w:World),Calls Tryz.prog 174 #[.bool b] w fun e w'=>e = .returned (ug (Tw.zhc b))/\w=w'
theorem zgc:∀(k u:Nat),u<10 ^ (k+1)->0<(Lib.decDigits u).length/\(Lib.decDigits u).length<=k+1
 | 0,u,h=>by
  unfold Lib.decDigits
  rw [dif_pos (by simpa using h)]
  simp
 | k+1,u,h=>by
  unfold Lib.decDigits
  split
  ·simp
  ·have:=zgc k (u / 10) (by rw [Nat.pow_succ] at h; omega)
   simp
   omega
theorem ycy {n:Int} (h0 : -9223372036854775808<=n) (h1:n<=9223372036854775807):0<(Lib.itoa n).length/\(Lib.itoa n).length<=1000:=by
 unfold Lib.itoa
 split
 ·have:=zgc 19 n.natAbs (by omega)
  simp
  omega
 ·have:=zgc 19 n.toNat (by omega)
  omega
theorem gPow:Tryz.prog.globalNamed "internal/strconv.uint64pow10"=some 1:=by kernel_rfl
theorem Tab.tk {S:List TypeId} {w w':World} (h:Tab w) (hk:TK B S w w') (hB:1<B):Tab w':=by
 have hv:w.var? Tryz.prog "internal/strconv.uint64pow10"=_:=h
 show w'.var? Tryz.prog "internal/strconv.uint64pow10"=_
 unfold World.var? at hv ⊢
 rw [gPow] at hv ⊢
 simp only [zbS] at hv ⊢
 have hlt:1<w.heap.size:=by
  rcases Nat.lt_or_ge 1 w.heap.size with h1 | h1
  ·exact h1
  ·rw [Array.getElem?_eq_none h1] at hv
   simp at hv
 rw [hk.low hB hlt]
 exact hv
theorem ERep.tkS {S:List TypeId} {w w':World} {sl:List Nat} (hk:TK B S w w') (hS:([362,317,218]++zh9).all (fun t => !S.contains t)=true):∀ {e:Tw.VEnv} {v:Value},ERep w sl e v->ERep w' sl e v
 | [],_,h=>h
 | (n,k)::o,_,⟨b,vo,bs,hv,hl,hb,ho⟩=>⟨b,vo,bs,hv,hl,hk.cells hb (by have:=List.all_eq_true.1 hS 362 (by simp); simpa using this),ERep.tkS hk hS ho⟩
theorem VRep.tkS {S:List TypeId} {w w':World} {sl:List Nat} (hk:TK B S w w') (hS:([362,317,218]++zh9).all (fun t => !S.contains t)=true):∀ {x:Tw.Val} {v:Value},VRep w sl x v->VRep w' sl x v
 | .num _,_,h=>h
 | .truth _,_,h=>h
 | .side _,_,h=>h
 | .pair _ _,_,⟨b,v1,v2,hv,hb,h1,h2⟩=>⟨b,v1,v2,hv,hk.cells hb (by have:=List.all_eq_true.1 hS 317 (by simp); simpa using this),VRep.tkS hk hS h1,VRep.tkS hk hS h2⟩
 | .clo ..,_,⟨b,fb,ev,v1,hi,hv,hb,hf,hr,he⟩=>by
  have hK:Kp w w':=hk.kp (by rw [List.all_append] at hS; exact (Bool.and_eq_true_iff.1 hS).2)
  exact ⟨b,fb,ev,v1,hi,hv,hk.cells hb (by have:=List.all_eq_true.1 hS 218 (by simp); simpa using this),hK _ _ _ _ hf (by decide),hr.kp hK,he.tkS hk hS⟩
def zmn (B:Nat) (w:World) (bw:Nat) (shown:List UInt8) (e:Ending) (w':World):Prop:=e = .returned (.tuple #[])/\TK B WrS w w'/\∃sv',BrAt w' bw 400 sv' shown
def zou (B:Nat) (x:Tw.Val):Prop:=∀ {w:World} {bw:Nat} {sv:Value} {shown:List UInt8} {v:Value} {sl:List Nat},VRep w sl x v->BrAt w bw 400 sv shown->Tab w->B<=bw->1<B->Calls Tryz.prog 95 #[.pointer (some ⟨bw,0,none⟩),v] w (zmn B w bw (Tw.zdd x shown))
theorem zgk {w:World} {bw:Nat} {sv:Value} {shown:List UInt8} {T:TypeId} {p:Value} (hW:BrAt w bw 400 sv shown) (hl:400<shown.length):Calls Tryz.prog 95 #[.pointer (some ⟨bw,0,none⟩),.iface T p] w (zmn B w bw shown):=by
 have W0:=bV hW
 have hd:decide (400<shown.length)=true:=by simp [hl]
 clear hW
 go_enter Tryz.func95,Tryz.ntmps95
 go_wp2_with fail
 refine (zd3 (uh W0)).mono ?_
 rintro e1 w1 ⟨rfl,rfl⟩
 rw [hd]
 go_wp2_with fail
 go_end0
 exact ⟨rfl,TK.of_grown _ _ (zac (zab _)),sv,(uh W0).grown (zac (zab _))⟩
theorem zxl (hFI:Said.FormatInt) (n:Int):zou B (.num n):=by
 intro w bw sv shown v sl hv hW hT hB hG
 obtain ⟨rfl,h0,h1⟩:=hv
 unfold Tw.zdd
 split
 ·rename_i hl
  exact zgk hW hl
 ·rename_i hl
  have hd:decide (400<shown.length)=false:=by simpa using hl
  have W1:=bV (hW.grown (zac (zab w)))
  have W0:=bV hW
  have T1:=bV (hT.tk (TK.of_grown B [] (zac (zab w))) hG)
  have q:=zqj
  have hlen:=ycy h0 h1
  clear hW hT
  go_enter Tryz.func95,Tryz.ntmps95
  go_wp2_with fail
  refine (zd3 (uh W0)).mono ?_
  rintro e1 w1 ⟨rfl,rfl⟩
  rw [hd]
  have D1:Hid (w.grownBy w.drew none):=zac (zab _)
  generalize w.drew=w1 at *
  go_wp2_with fail
  refine (hFI n h0 h1 w1 (uh T1)).mono ?_
  rintro e1 w2 ⟨rfl,hg⟩
  have W2:=bV ((uh W1).grown hg)
  have G2:Hid (w.grownBy w2 none):=zaa D1.out hg
  clear hg
  go_wp2_with fail
  refine (zhy (uh W2) hB ⟨(Lib.itoa n).toArray⟩ (by simpa [ByteArray.size] using hlen.2) (by simpa [ByteArray.size] using hlen.1)).mono ?_
  rintro e1 w3 ⟨rfl,hk,sv',hW'⟩
  have X:Hid (zmn B w bw (Tw.putS 400 shown (Lib.itoa n)) (.returned (.tuple #[])) w3):=⟨rfl,(TK.of_grown _ _ G2.out).trans hk,sv',by simpa using hW'⟩
  clear hk hW'
  go_wp2_with fail
  go_end0
  exact X.out
theorem ztc (hFB:Said.FormatBool) (n:Bool):zou B (.truth n):=by
 intro w bw sv shown v sl hv hW hT hB hG
 obtain rfl:v=_:=hv
 unfold Tw.zdd
 split
 ·rename_i hl
  exact zgk hW hl
 ·rename_i hl
  have hd:decide (400<shown.length)=false:=by simpa using hl
  have W1:=bV (hW.grown (zac (zab w)))
  have W0:=bV hW
  have q:=zm0
  have q1:=zqm
  have hlen:0<(Tw.zhc n).length/\(Tw.zhc n).length<=1000:=by cases n <;> decide
  clear hW hT
  go_enter Tryz.func95,Tryz.ntmps95
  go_wp2_with fail
  refine (zd3 (uh W0)).mono ?_
  rintro e1 w1 ⟨rfl,rfl⟩
  rw [hd]
  have D1:Hid (w.grownBy w.drew none):=zac (zab _)
  generalize w.drew=w1 at *
  go_wp2_with fail
  refine (hFB n w1).mono ?_
  rintro e1 w2 ⟨rfl,rfl⟩
  go_wp2_with fail
  refine (zhy (uh W1) hB ⟨(Tw.zhc n).toArray⟩ (by simpa [ByteArray.size] using hlen.2) (by simpa [ByteArray.size] using hlen.1)).mono ?_
  rintro e1 w3 ⟨rfl,hk,sv',hW'⟩
  have X:Hid (zmn B w bw (Tw.putS 400 shown (Tw.zhc n)) (.returned (.tuple #[])) w3):=⟨rfl,(TK.of_grown _ _ D1.out).trans hk,sv',by simpa using hW'⟩
  clear hk hW'
  go_wp2_with fail
  go_end0
  exact X.out
theorem zqn {w:World} {bw:Nat} {sv:Value} {shown:List UInt8} {T:TypeId} {p:Value} {x1 x2:Value} {b1 b2:Bool} (q1:∀w:World,Sem.run Tryz.prog (Instr.typeAssert (.iface T p) 119 192 true) w = .ok (.tuple #[.int .i64 0,.bool false]) w)
  (q2:∀w:World,Sem.run Tryz.prog (Instr.typeAssert (.iface T p) 119 196 true) w = .ok (.tuple #[.bool false,.bool false]) w) (q3:∀w:World,Sem.run Tryz.prog (Instr.typeAssert (.iface T p) 119 315 true) w = .ok (.tuple #[.pointer none,.bool false]) w)
  (q4:∀w:World,Sem.run Tryz.prog (Instr.typeAssert (.iface T p) 119 216 true) w = .ok (.tuple #[x1,.bool b1]) w) (q5:∀w:World,Sem.run Tryz.prog (Instr.typeAssert (.iface T p) 119 203 true) w = .ok (.tuple #[x2,.bool b2]) w)
  (hb:(b1=true/\b2=false)\/(b1=false/\b2=true)) (hW:BrAt w bw 400 sv shown) (hl:¬400<shown.length) (hB:B<=bw):Calls Tryz.prog 95 #[.pointer (some ⟨bw,0,none⟩),.iface T p] w (zmn B w bw (Tw.putS 400 shown [102,117,110])):=by
 have hd:decide (400<shown.length)=false:=by simpa using hl
 have W1:=bV (hW.grown (zac (zab w)))
 have W0:=bV hW
 clear hW
 rcases hb with ⟨rfl,rfl⟩ | ⟨rfl,rfl⟩ <;> (
  go_enter Tryz.func95,Tryz.ntmps95
  go_wp2_with fail
  refine (zd3 (uh W0)).mono ?_
  rintro e1 w1 ⟨rfl,rfl⟩
  rw [hd]
  have D1:Hid (w.grownBy w.drew none):=zac (zab _)
  generalize w.drew=w1 at *
  go_wp2_with fail
  refine (zhy (uh W1) hB ⟨#[102,117,110]⟩ (by simp [ByteArray.size]) (by simp [ByteArray.size])).mono ?_
  rintro e1 w3 ⟨rfl,hk,sv',hW'⟩
  have X:Hid (zmn B w bw (Tw.putS 400 shown [102,117,110]) (.returned (.tuple #[])) w3):=⟨rfl,(TK.of_grown _ _ D1.out).trans hk,sv',by simpa using hW'⟩
  clear hk hW'
  go_wp2_with fail
  go_end0
  exact X.out)
theorem zuw {x y:Tw.Val} (hX:zou B x) (hY:zou B y):zou B (.pair x y):=by
 intro w bw sv shown v sl hv hW hT hB hG
 obtain ⟨b,v1,v2,rfl,hb,hv1,hv2⟩:=hv
 unfold Tw.zdd
 split
 ·rename_i hl
  exact zgk hW hl
 ·rename_i hl
  have hd:decide (400<shown.length)=false:=by simpa using hl
  have W1:=bV (hW.grown (zac (zab w)))
  have W0:=bV hW
  have V1:=bV hv1
  have V2:=bV hv2
  have HT:=bV hT
  have HB:=bV hb
  obtain ⟨T1,p1,rfl⟩:=VRep.iface hv1
  obtain ⟨T2,p2,rfl⟩:=VRep.iface hv2
  have q1:=zo2
  have q2:=zrs
  have q3:=zm4
  clear hW hT hb hv1 hv2
  go_enter Tryz.func95,Tryz.ntmps95
  go_wp2_with fail
  refine (zd3 (uh W0)).mono ?_
  rintro e1 w1 ⟨rfl,rfl⟩
  rw [hd]
  have D1:Hid (w.grownBy w.drew none):=zac (zab _)
  generalize w.drew=w1 at *
  go_wp2_with fail
  refine (zhy (uh W1) hB ⟨#[40]⟩ (by simp [ByteArray.size]) (by simp [ByteArray.size])).mono ?_
  rintro e1 w2 ⟨rfl,hk,sv2,hW2⟩
  have K2:Hid (TK B WrS w w2):=(TK.of_grown _ _ D1.out).trans hk
  have W2:=bV hW2
  obtain ⟨c0,c1,_,_⟩:=zau (K2.out.cells (uh HB) (by decide))
  clear hk hW2
  go_wp2_with fail
  refine (hX ((uh V1).tkS K2.out (by decide)) (uh W2) ((uh HT).tk K2.out hG) hB hG).mono ?_
  rintro e1 w3 ⟨rfl,hk,sv3,hW3⟩
  have K3:Hid (TK B WrS w w3):=K2.out.trans hk
  have W3:=bV hW3
  clear hk hW3 c0 c1
  go_wp2_with fail
  refine (zhy (uh W3) hB ⟨#[44,32]⟩ (by simp [ByteArray.size]) (by simp [ByteArray.size])).mono ?_
  rintro e1 w4 ⟨rfl,hk,sv4,hW4⟩
  have K4:Hid (TK B WrS w w4):=K3.out.trans hk
  have W4:=bV hW4
  obtain ⟨c0,c1,_,_⟩:=zau (K4.out.cells (uh HB) (by decide))
  clear hk hW4
  go_wp2_with fail
  refine (hY ((uh V2).tkS K4.out (by decide)) (uh W4) ((uh HT).tk K4.out hG) hB hG).mono ?_
  rintro e1 w5 ⟨rfl,hk,sv5,hW5⟩
  have K5:Hid (TK B WrS w w5):=K4.out.trans hk
  have W5:=bV hW5
  clear hk hW5 c0 c1
  go_wp2_with fail
  refine (zhy (uh W5) hB ⟨#[41]⟩ (by simp [ByteArray.size]) (by simp [ByteArray.size])).mono ?_
  rintro e1 w6 ⟨rfl,hk,sv6,hW6⟩
  have X:Hid (zmn B w bw (Tw.putS 400 (Tw.zdd y (Tw.putS 400 (Tw.zdd x (Tw.putS 400 shown [40])) [44,32])) [41]) (.returned (.tuple #[])) w6):=⟨rfl,K5.out.trans hk,sv6,hW6⟩
  clear hk hW6
  go_wp2_with fail
  go_end0
  exact X.out
theorem zmb (hFI:Said.FormatInt) (hFB:Said.FormatBool):∀x:Tw.Val,zou B x
 | .num n=>zxl hFI n
 | .truth b=>ztc hFB b
 | .side b=>by
  intro hv hW hT hB hG
  obtain rfl:=(hv:_=_)
  unfold Tw.zdd
  split
  ·rename_i hl
   exact zgk hW hl
  ·rename_i hl
   exact zqn (zo1 _) (zrr _) (zm3 _) (zo0 _) (zm2 _) (.inr ⟨rfl,rfl⟩) hW hl hB
 | .clo .. => by
  intro hv hW hT hB hG
  obtain ⟨b,fb,ev,v1,hi,rfl,_⟩:=hv
  unfold Tw.zdd
  split
  ·rename_i hl
   exact zgk hW hl
  ·rename_i hl
   exact zqn (zql _) (ztb _) (zo3 _) (zqk _) (zus _) (.inl ⟨rfl,rfl⟩) hW hl hB
 | .pair x y=>zuw (zmb hFI hFB x) (zmb hFI hFB y)
theorem ya3 (hFI:Said.FormatInt) (hFB:Said.FormatBool) {w:World} {sl:List Nat} {x:Tw.Val} {v:Value} (hv:VRep w sl x v) (hT:Tab w) (hG:1<w.heap.size) :
  Calls Tryz.prog 51 #[v] w fun e w'=>e = .returned (ug (Tw.zju 400 (Tw.zdd x [])))/\TK w.heap.size WrS w w':=by
 have HV:=bV hv
 have HT:=bV hT
 obtain ⟨T,p,rfl⟩:=VRep.iface hv
 clear hv hT
 go_enter Tryz.func51,Tryz.ntmps51
 go_wp2_with fail
 refine (zij w 400 (by omega)).mono ?_
 rintro e1 w1 ⟨rfl,hg,hb⟩
 have G1:=bV hg
 have B1:=bV hb
 clear hg hb
 go_wp2_with fail
 refine (zmb hFI hFB x (B:=w.heap.size) ((uh HV).tkS (TK.of_grown 0 WrS (uh G1)) (by decide)) (uh B1) ((uh HT).tk (TK.of_grown w.heap.size [] (uh G1)) hG) (znL _) hG).mono ?_
 rintro e1 w2 ⟨rfl,hk,sv2,hW2⟩
 have K2:Hid (TK w.heap.size WrS w w2):=(TK.of_grown _ _ (uh G1)).trans hk
 have W2:=bV hW2
 clear hk hW2
 go_wp2_with fail
 refine (zqd (uh W2)).mono ?_
 rintro e1 w3 ⟨rfl,hg⟩
 have K3:Hid (TK w.heap.size WrS w w3):=K2.out.trans (TK.of_grown _ _ hg)
 clear hg
 go_wp2_with fail
 go_ret
 exact ⟨rfl,K3.out⟩
open Go.RowKit
abbrev zzl:List TypeId:=[311,117,329,5]
theorem TK.setNew {B:Nat} {S:List TypeId} {w w1:World} (h:TK B S w w1) {b:Nat} (j:Nat) (v:Value) (hb:w.heap.size<=b):TK B S w (w1.setCell ⟨b,j,none⟩ v):=by
 have key:∀k,k<w.heap.size->(w1.setCell ⟨b,j,none⟩ v).heap[k]? = w1.heap[k]? := fun k hk=>heap_setCell_other _ _ _ _ (by simp; omega)
 exact ⟨fun {k} x y=>(key k y).trans (h.low x y),h.os,h.tape,h.output,by simpa using h.size,fun {k c t m} x y=>(key k (zgE.1 x).1).trans (h.cells x y),fun {k o} x y=>(key k (zgE.1 x).1).trans (h.other x y)⟩
theorem zoe {w:World} {b:Nat} {x y z:Value} {t:TypeId} (h:w.heap[b]? = some (.cells #[x,y,z] t (0,0))) (p q r:Value):(((w.setCell ⟨b,0,none⟩ p).setCell ⟨b,1,none⟩ q).setCell ⟨b,2,none⟩ r).heap[b]? = some (.cells #[p,q,r] t (0,0)):=by
 have h1:(w.setCell ⟨b,0,none⟩ p).heap[b]? = some (.cells #[p,y,z] t (0,0)):=by rw [heap_setCell_same _ _ _ _ _ _ h]; rfl
 have h2:((w.setCell ⟨b,0,none⟩ p).setCell ⟨b,1,none⟩ q).heap[b]? = some (.cells #[p,q,z] t (0,0)):=by rw [heap_setCell_same _ _ _ _ _ _ h1]; rfl
 rw [heap_setCell_same _ _ _ _ _ _ h2]; rfl
theorem TK.drew {B:Nat} {S:List TypeId} {w w1:World} (h:TK B S w w1):TK B S w w1.drew:=h.trans (TK.of_grown _ _ (zac (zab _)))
theorem ya4 (hFI:Said.FormatInt) (hFB:Said.FormatBool) {w:World} {hi fuel bud:Nat} {t:Tw.T} {tv:Value} (hr:Rep w 0 hi t tv) (hb:bud<=3000) (hT:Tab w) (hG:1<w.heap.size) {kind:Int} {steps:Nat} {shown:List UInt8} (hf:Tw.runS fuel t bud=some (kind,steps,shown)) :
    Calls Tryz.prog 33 #[tv,.int .i64 bud] w fun e w'=>e = .returned (.agg #[.int .i64 kind,.int .i64 steps,ug shown])/\TK w.heap.size zzl w w':=by
  unfold Tw.runS at hf
  obtain ⟨a,ha,hf⟩:=zbE.1 hf
  have HR:=bV hr
  have HT:=bV hT
  have HA:=bV ha
  obtain ⟨PT,nt,rfl⟩:=hr.iface
  clear hr hT ha
  have A1:Hid (w.grownBy (w.alloc (.cells #[.int .i64 0,.int .i64 0,.string ⟨#[]⟩] 39)) none):=zwA _ _ none
  have A2:Hid (w.grownBy ((w.alloc (.cells #[.int .i64 0,.int .i64 0,.string ⟨#[]⟩] 39)).alloc (.cells #[.int .i64 bud,.int .i64 0,.int .i64 0] 117)) none):=zae A1.out _
  have R0:Hid (RunAt w.heap.size ((w.alloc (.cells #[.int .i64 0,.int .i64 0,.string ⟨#[]⟩] 39)).alloc (.cells #[.int .i64 bud,.int .i64 0,.int .i64 0] 117)) (w.heap.size+1) bud [] ⟨[],0,0⟩):=by
    refine {runner := ?_,len:=rfl,nodup:=by simp,slot:=fun h=>by simp at h,steps:=by simp,bud:=hb,lob:=by omega,los:=fun h=>by simp at h}
    have:=zad (w.alloc (.cells #[.int .i64 0,.int .i64 0,.string ⟨#[]⟩] 39)) (.cells #[.int .i64 bud,.int .i64 0,.int .i64 0] 117)
    rw [World.size_alloc] at this
    exact this
  have C0:Hid (((w.alloc (.cells #[.int .i64 0,.int .i64 0,.string ⟨#[]⟩] 39)).alloc (.cells #[.int .i64 bud,.int .i64 0,.int .i64 0] 117)).heap[w.heap.size]? = some (.cells #[.int .i64 0,.int .i64 0,.string ⟨#[]⟩] 39 (0,0))) :=
    (Below.heap_alloc _ _ _ (by simp)).trans (zad w _)
  go_enter Tryz.func33,Tryz.ntmps33
  go_wp2_with fail
  refine (zuv fuel (uh R0) ((uh HR).grown A2.out (znL _) (znL _)) (show ERep _ [] [] (.pointer none) from rfl) (uh HA)).mono ?_
  rintro e1 w1 ⟨v,sl1,rfl,hv,hk,hp,hR⟩
  have K1:Hid (TK w.heap.size RunS w w1):=(TK.of_grown _ _ A2.out).trans hk
  have R1:=bV hR
  have C1:=bV (hk.cells (uh C0) (by decide))
  obtain ⟨c0,c1,c2,f0,f1,f2⟩:=zaf (uh C1)
  obtain ⟨d0,d1,d2,_,_,_⟩:=zaf hR.runner
  have z1:=(uh K1).size
  obtain ⟨a1,a2⟩:=a
  clear hk hp hR A1 A2 C0 R0
  cases a1 with
  | none =>
    simp only [zsI,zpI] at hf
    obtain ⟨rfl,rfl,rfl⟩:=hf
    obtain rfl:v = .nilIface:=hv
    go_wp2_with fail
    go_region
    go_wp2_with fail
    obtain ⟨e0,e1,e2,_,_,_⟩:=zaf (zoe (uh C1) (.int .i64 a2.fin) (.int .i64 a2.steps) (.string ⟨#[]⟩))
    refine bodyPost_ret (v:=.agg #[.int .i64 a2.fin,.int .i64 a2.steps,ug []]) (by simp [results,Tryz.results33,go_sem,e0,e1,e2]) rfl ⟨rfl,?_⟩
    exact (((((uh K1).sub (by decide)).setNew 0 _ (znL _)).setNew 1 _ (znL _)).setNew 2 _ (znL _)).drew
  | some x =>
    simp only [zsI,zpI] at hf
    obtain ⟨rfl,rfl,rfl⟩:=hf
    have V1:Hid (VRep w1 sl1 x v):=hv
    obtain ⟨T,p,rfl⟩:=VRep.iface hv
    clear hv
    go_wp2_with fail
    have D1:Hid (w1.grownBy w1.drew none):=zac (zab _)
    go_region_held3 (fun W=>W.cell? ⟨w.heap.size+1,1,none⟩=some (.int .i64 a2.steps)) (go_keep)
      ((go_at_call 51; refine (ya3 hFI hFB ((uh V1).tk (TK.of_grown 0 _ D1.out) (List.prefix_refl _)) ((uh HT).tk ((uh K1).trans (TK.of_grown _ _ D1.out)) hG) (by have:=D1.out.size; omega)).mono ?_; rintro e1 w2 ⟨rfl,hk⟩
        have K2:Hid (TK w.heap.size zzl w w2):=((uh K1).drew.sub (by decide)).trans ((hk.base (by have:=D1.out.size; omega)).sub (by decide))
        have C2:=bV (hk.cells (uh C1) (by decide))
        obtain ⟨g0,g1,g2,k0,k1,k2⟩:=zaf (uh C2)
        obtain ⟨_,e1,_,_,_,_⟩:=zaf (hk.cells (uh R1).runner (by decide))
        clear hk))
    go_wp2_with fail
    have C2:w2.heap[w.heap.size]? = some (.cells #[.int .i64 0,.int .i64 0,.string ⟨#[]⟩] 39 (0,0)):=uh C2
    obtain ⟨e0,e1,e2,_,_,_⟩:=zaf (zoe C2 (.int .i64 0) (.int .i64 a2.steps) (ug (Tw.zju 400 (Tw.zdd x []))))
    refine bodyPost_ret (v:=.agg #[.int .i64 0,.int .i64 a2.steps,ug (Tw.zju 400 (Tw.zdd x []))]) (by simp [results,Tryz.results33,go_sem,e0,e1,e2]) rfl ⟨rfl,?_⟩
    exact ((((uh K2).setNew 0 _ (znL _)).setNew 1 _ (znL _)).setNew 2 _ (znL _))
def zjn (n:Int):Nat:=(min (max n 0) 3000).toNat
theorem zk7 (hFI:Said.FormatInt) (hFB:Said.FormatBool) {w:World} {bt fuel:Nat} {s:ByteArray} {t:Tw.T} (n:Int) (h:TextAt w bt s t) (hT:Tab w) (hG:1<w.heap.size) {kind:Int} {steps:Nat} {shown:List UInt8} (hf:Tw.runS fuel t (zjn n)=some (kind,steps,shown)) :
  Calls Tryz.prog 21 #[.pointer (some ⟨bt,0,none⟩),.int .i64 n] w fun e w'=>e = .returned (.agg #[.int .i64 kind,.int .i64 steps,ug shown])/\TK w.heap.size zzl w w':=by
 obtain ⟨hi,tv,h1,h2⟩:=h
 have HR:=bV h2
 have HT:=bV hT
 have HF:=bV hf
 have lb:bt<w.heap.size:=(zgE.1 h1).1
 obtain ⟨PT,nt,rfl⟩:=h2.iface
 obtain ⟨_,c1,_,_⟩:=zau h1
 have A1:Hid (w.grownBy (w.alloc (.cells #[.int .i64 0,.int .i64 0,.string ⟨#[]⟩] 39)) none):=zwA _ _ none
 have C0:Hid ((w.alloc (.cells #[.int .i64 0,.int .i64 0,.string ⟨#[]⟩] 39)).heap[w.heap.size]? = some (.cells #[.int .i64 0,.int .i64 0,.string ⟨#[]⟩] 39 (0,0))):=zad w _
 have hb:zjn n<=3000:=by unfold zjn; omega
 have hb2:((zjn n:Nat):Int)=min (max n 0) 3000:=by unfold zjn; omega
 clear h1 h2 hT hf
 have fin:Hid (∀x:Int,x=((zjn n:Nat):Int)->Calls Tryz.prog 33 #[.iface PT (.pointer (some ⟨nt,0,none⟩)),.int .i64 x] (w.alloc (.cells #[.int .i64 0,.int .i64 0,.string ⟨#[]⟩] 39)) fun e w'=>e = .returned (.agg #[.int .i64 kind,.int .i64 steps,ug shown])/\TK w.heap.size zzl w w'/\w'.heap[w.heap.size]? = some (.cells #[.int .i64 0,.int .i64 0,.string ⟨#[]⟩] 39 (0,0))):=by
  rintro x rfl
  refine (ya4 hFI hFB ((uh HR).grown A1.out (znL _) (znL _)) hb ((uh HT).tk (TK.of_grown w.heap.size [] A1.out) hG) (by have:=A1.out.size; omega) (uh HF)).mono ?_
  rintro e w' ⟨rfl,hk⟩
  exact ⟨rfl,(TK.of_grown _ _ A1.out).trans (hk.base A1.out.size),hk.cells (uh C0) (by decide)⟩
 go_enter Tryz.func21,Tryz.ntmps21
 go_wp2_with fail
 all_goals
  refine (uh fin _ (by omega)).mono ?_
  rintro e1 w1 ⟨rfl,hk,hc⟩
  have K1:=bV hk
  have C1:=bV hc
  obtain ⟨g0,g1,g2,k0,k1,k2⟩:=zaf hc
  clear hk hc
  go_wp2_with fail
  obtain ⟨e0,e1,e2,_,_,_⟩:=zaf (zoe (uh C1) (.int .i64 kind) (.int .i64 steps) (ug shown))
  refine bodyPost_ret (v:=.agg #[.int .i64 kind,.int .i64 steps,ug shown]) (by simp [results,Tryz.results21,go_sem,e0,e1,e2]) rfl ⟨rfl,?_⟩
  exact (((uh K1).setNew 0 _ (znL _)).setNew 1 _ (znL _)).setNew 2 _ (znL _)
end Go.Proofs.YtckhafpejefbbaaGreatDoor
namespace Go.Proofs.YtckhafpejefbbaaGreatDoor.Tw
open Go
inductive Lex:Nat->List UInt8->List Tok->Prop
 | nil (off:Nat):Lex off [] []
 | gap {off:Nat} {m:List UInt8} {ts:List Tok} (h:m ≠ []) (hg:0<gapL m) (hr:Lex (off+(gapL m).toNat) (m.drop (gapL m).toNat) ts):Lex off m ts
 | tok {off:Nat} {m:List UInt8} {ts:List Tok} (h:m ≠ []) (hg:¬0<gapL m) (h0:(zah m).2≠0) (hr:Lex (off+(zah m).2.toNat) (m.drop (zah m).2.toNat) ts):Lex off m (⟨(zah m).1,off,off+(zah m).2.toNat⟩::ts)
inductive LexE:Nat->List UInt8->Nat->Prop
 | here {off:Nat} {m:List UInt8} (h:m ≠ []) (hg:¬0<gapL m) (h0:(zah m).2=0):LexE off m off
 | gap {off:Nat} {m:List UInt8} {k:Nat} (h:m ≠ []) (hg:0<gapL m) (hr:LexE (off+(gapL m).toNat) (m.drop (gapL m).toNat) k):LexE off m k
 | tok {off:Nat} {m:List UInt8} {k:Nat} (h:m ≠ []) (hg:¬0<gapL m) (h0:(zah m).2≠0) (hr:LexE (off+(zah m).2.toNat) (m.drop (zah m).2.toNat) k):LexE off m k
theorem zrt (l:List UInt8):∀(fuel k:Nat) (acc:List Tok),k<=l.length->l.length<fuel+k ->
  (∃body,zcs l fuel k acc = .ok (acc++body ++ [⟨0,l.length,l.length⟩])/\Lex k (l.drop k) body)\/(∃e,zcs l fuel k acc = .error e/\LexE k (l.drop k) e):=by
 intro fuel
 induction fuel with
 | zero=>intro k acc h1 h2; omega
 | succ n ih =>
  intro k acc h1 h2
  rw [zcs]
  by_cases hk:k<l.length
  ·have hl:0<(l.drop k).length:=by simp; omega
   have hne:l.drop k ≠ []:=by intro e; rw [e] at hl; simp at hl
   have g1:=zex (l.drop k) hl
   have f1:=zde (l.drop k) hl
   simp only [List.length_drop] at g1 f1
   rw [if_pos hk]
   by_cases hg:0<gapL (l.drop k)
   ·rw [if_pos hg]
    have:=ih (k+(gapL (l.drop k)).toNat) acc (by omega) (by omega)
    rw [<-List.drop_drop] at this
    rcases this with ⟨body,h,hL⟩ | ⟨e,h,hL⟩
    ·exact .inl ⟨body,h,.gap hne hg hL⟩
    ·exact .inr ⟨e,h,.gap hne hg hL⟩
   ·rw [if_neg hg]
    by_cases h0:(zah (l.drop k)).2=0
    ·rw [if_pos h0]
     exact .inr ⟨k,rfl,.here hne hg h0⟩
    ·rw [if_neg h0]
     have:=ih (k+(zah (l.drop k)).2.toNat) (acc ++ [⟨(zah (l.drop k)).1,k,k+(zah (l.drop k)).2.toNat⟩]) (by omega) (by omega)
     rw [<-List.drop_drop] at this
     rcases this with ⟨body,h,hL⟩ | ⟨e,h,hL⟩
     ·exact .inl ⟨_::body,by rw [h]; simp,.tok hne hg h0 hL⟩
     ·exact .inr ⟨e,h,.tok hne hg h0 hL⟩
  ·have hkl:k=l.length:=by omega
   subst hkl
   rw [if_neg hk]
   refine .inl ⟨[],by simp,?_⟩
   rw [List.drop_length]
   exact .nil _
theorem Lex.unique:∀ {off:Nat} {m:List UInt8} {ts us:List Tok},Lex off m ts->Lex off m us->ts=us:=by
 intro off m ts us h
 induction h generalizing us with
 | nil off=>intro k; cases k with
  | nil=>rfl
  | gap h=>exact absurd rfl h
  | tok h=>exact absurd rfl h
 | gap h hg hr ih=>intro k; cases k with
  | nil=>exact absurd rfl h
  | gap _ _ hr'=>exact ih hr'
  | tok _ hg'=>exact absurd hg hg'
 | tok h hg h0 hr ih=>intro k; cases k with
  | nil=>exact absurd rfl h
  | gap _ hg'=>exact absurd hg' hg
  | tok _ _ _ hr'=>rw [ih hr']
theorem Lex.yeq:∀ {off:Nat} {m:List UInt8} {ts:List Tok} {e:Nat},Lex off m ts->LexE off m e->False:=by
 intro off m ts e h
 induction h with
 | nil=>intro k; cases k with
  | here h=>exact absurd rfl h
  | gap h=>exact absurd rfl h
  | tok h=>exact absurd rfl h
 | gap h hg hr ih=>intro k; cases k with
  | here _ hg'=>exact absurd hg hg'
  | gap _ _ hr'=>exact ih hr'
  | tok _ hg'=>exact absurd hg hg'
 | tok h hg h0 hr ih=>intro k; cases k with
  | here _ _ h0'=>exact absurd h0' h0
  | gap _ hg'=>exact absurd hg' hg
  | tok _ _ _ hr'=>exact ih hr'
theorem zje {l:List UInt8} {ts:List Tok}:split l = .ok ts↔∃body,Lex 0 l body/\ts=body ++ [⟨0,l.length,l.length⟩]:=by
 have:=zrt l (l.length+1) 0 [] (by omega) (by omega)
 simp only [List.drop_zero,List.nil_append] at this
 constructor
 ·intro h
  rcases this with ⟨body,h',hL⟩ | ⟨e,h',_⟩
  ·rw [split,h'] at h
   cases h
   exact ⟨body,hL,rfl⟩
  ·rw [split,h'] at h
   cases h
 ·rintro ⟨body,hL,rfl⟩
  rcases this with ⟨body',h',hL'⟩ | ⟨e,h',hE⟩
  ·rw [split,h',hL.unique hL']
  ·exact (hL.yeq hE).elim
theorem ziw (c:UInt8) (r:List UInt8):∀m:List UInt8,0<=Lib.indexByte m c->Lib.indexByte (m++r) c=Lib.indexByte m c
 | [],h=>by simp [Lib.indexByte] at h
 | b::m,h=>by
  rw [List.cons_append,Lib.indexByte]
  rw [Lib.indexByte] at h
  rw [Lib.indexByte]
  split
  ·rfl
  ·rename_i hb
   rw [if_neg hb] at h
   have hm:0<=Lib.indexByte m c:=by
    have:=Lib.indexByte_ge m c
    split at h
    ·simp at h
    ·rename_i hq
     have hq':Lib.indexByte m c ≠ -1:=by simpa using hq
     omega
   rw [ziw c r m hm]
theorem zdz {m:List UInt8} (h:m ≠ []) (r:List UInt8):zam (m++r)=zam m:=by
 cases m with
 | nil=>exact absurd rfl h
 | cons c m=>rfl
theorem zux {m:List UInt8} (h:m ≠ []) (hg:0<gapL m) (r:List UInt8):gapL (m++r)=gapL m:=by
 unfold gapL at hg ⊢
 rw [zdz h]
 split
 ·rfl
 ·rename_i h1
  rw [if_neg h1] at hg
  split
  ·rename_i h2
   rw [if_pos h2] at hg
   rw [ziw 125 r m (by omega)]
  ·rfl
theorem ztd {m:List UInt8} (h:m ≠ []) (hg:¬0<gapL m) (h0:(zah m).2≠0) (r:List UInt8):¬0<gapL (m++r):=by
 unfold gapL at hg ⊢
 rw [zdz h]
 split
 ·rename_i h1
  rw [if_pos h1] at hg
  omega
 ·rename_i h1
  split
  ·rename_i h2
   exfalso
   apply h0
   have e1:m.take 2 ≠ [45,62]:=by
    cases m with
    | nil=>exact absurd rfl h
    | cons c m=>intro e; simp at e; have:=e.1; subst this; simp [zam] at h2
   unfold zah
   rw [h2,if_neg (by decide),if_neg (by decide),if_neg e1]
   rfl
  ·omega
open Go
theorem zcm {ts:List Tok} {st st':PS} (h:zh6 ts st=some st'):st'.stuck=true/\st'.depth=st.depth:=by
 unfold zh6 at h
 split at h
 ·rename_i hs
  cases h
  exact ⟨hs,rfl⟩
 ·obtain ⟨t,_,h⟩:=zbE.1 h
  cases h
  exact ⟨rfl,rfl⟩
def Mild (st st':PS):Prop:=(st'.stuck=false->st.stuck=false)/\st'.depth=st.depth
theorem Mild.refl (st:PS):Mild st st:=⟨id,rfl⟩
theorem Mild.trans {a b c:PS} (h:Mild a b) (k:Mild b c):Mild a c:=⟨fun x=>h.1 (k.1 x),k.2.trans h.2⟩
theorem zmc {ts:List Tok} {st st':PS} (h:zh6 ts st=some st'):Mild st st':=⟨fun x=>(by rw [(zcm h).1] at x; cases x),(zcm h).2⟩
theorem zai {ts:List Tok} {s:Int} {st st':PS} {t:Tok} (h:zbe ts s st=some (t,st')):Mild st st':=by
 unfold zbe at h
 obtain ⟨t0,_,h⟩:=zbE.1 h
 split at h
 ·split at h
  ·cases h; exact .refl _
  ·split at h
   ·cases h; exact ⟨fun x=>x,rfl⟩
   ·cases h
 ·obtain ⟨s1,h1,h⟩:=zbE.1 h
  cases h
  exact zmc h1
theorem zak {ts:List Tok}:∀ {l:List Int} {st st':PS} {k:Int},zao ts l st=some (k,st')->Mild st st'
 | [],st,st',k,h=>by cases h; exact .refl _
 | s::l,st,st',k,h=>by
  rw [zao] at h
  obtain ⟨t0,_,h⟩:=zbE.1 h
  split at h
  ·obtain ⟨⟨t1,s1⟩,h1,h⟩:=zbE.1 h
   cases h
   exact zai h1
  ·exact zak h
theorem zfc {ts:List Tok} {s:Int} {st st':PS} {k:Nat} (h:zce ts s st=some (k,st')):(st'.stuck=false->st.stuck=false)/\st'.depth=st.depth+1:=by
 unfold zce at h
 obtain ⟨s1,h1,h⟩:=zbE.1 h
 have m1:Mild st s1:=by
  split at h1
  ·exact zmc h1
  ·cases h1; exact .refl _
 split at h
 ·obtain ⟨⟨t1,s2⟩,h2,h⟩:=zbE.1 h
  cases h
  have m2:=zai h2
  exact ⟨fun x=>m1.1 (m2.1 x),by rw [m2.2]; simp [m1.2]⟩
 ·cases h
theorem zaz {st st':PS} (h:endS st=some st'):st'.stuck=st.stuck/\st.depth=st'.depth+1:=by
 unfold endS at h
 split at h
 ·cases h
 ·cases h
  exact ⟨rfl,by simp; omega⟩
theorem zbm {l:List UInt8} {ts:List Tok} {st st':PS} {b:List UInt8×Nat} (h:zct l ts st=some (b,st')):Mild st st':=by
 unfold zct at h
 obtain ⟨⟨t1,s1⟩,h1,h⟩:=zbE.1 h
 split at h
 ·cases h; exact zai h1
 ·cases h
theorem Mild.block {a b c d:PS} (h1:(b.stuck=false->a.stuck=false)/\b.depth=a.depth+1) (h2:Mild b c) (h3:d.stuck=c.stuck/\c.depth=d.depth+1):Mild a d:=by
 refine ⟨fun x=>h1.1 (h2.1 (by rw [<-h3.1]; exact x)),?_⟩
 have:=h1.2
 have:=h2.2
 have:=h3.2
 omega
section
variable (l : List UInt8) (ts : List Tok)
structure MAll (n:Nat):Prop where
 expr:∀ {st st' t},za6 l ts n st=some (t,st')->Mild st st'
 lett:∀ {st st' t},letS l ts n st=some (t,st')->Mild st st'
 fn:∀ {st st' t},funS l ts n st=some (t,st')->Mild st st'
 cond:∀ {st st' t},zco l ts n st=some (t,st')->Mild st st'
 cmp:∀ {st st' t},cmpS l ts n st=some (t,st')->Mild st st'
 sum:∀ {st st' t},sumS l ts n st=some (t,st')->Mild st st'
 term:∀ {st st' t},zci l ts n st=some (t,st')->Mild st st'
 part:∀ {p st st' t},zbc l ts n p st=some (t,st')->Mild st st'
 chain:∀ {p g st st' t},zbf l ts n p g st=some (t,st')->Mild st st'
 chainFrom:∀ {p g a st st' t},zan l ts n p g a st=some (t,st')->Mild st st'
 call:∀ {st st' t},zcc l ts n st=some (t,st')->Mild st st'
 callFrom:∀ {a st st' t},zar l ts n a st=some (t,st')->Mild st st'
 atom:∀ {st st' t},zbv l ts n st=some (t,st')->Mild st st'
 bracket:∀ {st st' t},za0 l ts n st=some (t,st')->Mild st st'
theorem zbp:∀n,MAll l ts n
 | 0=>by constructor <;> (intros; rename_i h; simp [za6,letS,funS,zco,cmpS,sumS,zci,zbc,zbf,zan,zcc,zar,zbv,za0] at h)
 | n+1=>by
  have ih:=zbp n
  constructor
  ·intro st st' t h
   rw [za6] at h
   obtain ⟨k,_,h⟩:=zbE.1 h
   split at h
   ·exact ih.lett h
   ·split at h
    ·exact ih.fn h
    ·split at h
     ·exact ih.cond h
     ·exact ih.cmp h
  ·intro st st' t h
   simp only [letS,zbE,zsI,zpI,Prod.exists] at h
   obtain ⟨_,_,h1,_,_,h2,_,_,_,h3,_,_,h4,_,_,h5,_,_,h6,_,_,h7,_,h8,_,rfl⟩:=h
   exact Mild.block (zfc h1) (((((zak h2).trans (zbm h3)).trans (zai h4)).trans (ih.expr h5)).trans ((zai h6).trans (ih.expr h7))) (zaz h8)
  ·intro st st' t h
   simp only [funS,zbE,zsI,zpI,Prod.exists] at h
   obtain ⟨_,_,h1,_,_,_,h2,_,_,h3,_,_,h4,_,h5,_,rfl⟩:=h
   exact Mild.block (zfc h1) (((zbm h2).trans (zai h3)).trans (ih.expr h4)) (zaz h5)
  ·intro st st' t h
   simp only [zco,zbE,zsI,zpI,Prod.exists] at h
   obtain ⟨_,_,h1,_,_,h2,_,_,h3,_,_,h4,_,_,h5,_,_,h6,_,h7,_,rfl⟩:=h
   exact Mild.block (zfc h1) ((((ih.expr h2).trans (zai h3)).trans (ih.expr h4)).trans ((zai h5).trans (ih.expr h6))) (zaz h7)
  ·intro st st' t h
   simp only [cmpS,zbE,Prod.exists] at h
   obtain ⟨_,_,h1,_,_,h2,h⟩:=h
   split at h
   ·cases h
    exact (ih.sum h1).trans (zak h2)
   ·simp only [zbE,zsI,zpI,Prod.exists] at h
    obtain ⟨_,_,h3,_,rfl⟩:=h
    exact ((ih.sum h1).trans (zak h2)).trans (ih.sum h3)
  ·intro st st' t h
   rw [sumS] at h
   exact ih.chain h
  ·intro st st' t h
   rw [zci] at h
   exact ih.chain h
  ·intro p st st' t h
   cases p with
   | term=>rw [zbc] at h; exact ih.term h
   | call=>rw [zbc] at h; exact ih.call h
  ·intro p g st st' t h
   simp only [zbf,zbE,Prod.exists] at h
   obtain ⟨_,_,h1,h2⟩:=h
   exact (ih.part h1).trans (ih.chainFrom h2)
  ·intro p g a st st' t h
   simp only [zan,zbE,Prod.exists] at h
   obtain ⟨_,_,h1,h⟩:=h
   split at h
   ·cases h
    exact zak h1
   ·simp only [zbE,Prod.exists] at h
    obtain ⟨_,_,h2,h3⟩:=h
    exact ((zak h1).trans (ih.part h2)).trans (ih.chainFrom h3)
  ·intro st st' t h
   simp only [zcc,zbE,Prod.exists] at h
   obtain ⟨_,_,h1,h2⟩:=h
   exact (ih.atom h1).trans (ih.callFrom h2)
  ·intro a st st' t h
   simp only [zar,zbE] at h
   obtain ⟨_,h1,h⟩:=h
   split at h
   ·simp only [zbE,Prod.exists] at h
    obtain ⟨_,_,h2,h3⟩:=h
    exact (ih.atom h2).trans (ih.callFrom h3)
   ·cases h
    exact .refl _
  ·intro st st' t h
   simp only [zbv,zbE] at h
   obtain ⟨k,h1,h⟩:=h
   split at h
   ·exact ih.bracket h
   ·split at h
    ·simp only [zbE,zsI,zpI,Prod.exists] at h
     obtain ⟨_,_,h2,_,_,_,rfl⟩:=h
     exact zai h2
    ·simp only [zbE,zsI,zpI] at h
     obtain ⟨_,h2,_,rfl⟩:=h
     exact zmc h2
  ·intro st st' t h
   simp only [za0,zbE,Prod.exists] at h
   obtain ⟨_,_,h1,_,_,h2,_,_,h3,h⟩:=h
   split at h
   ·simp only [zbE,zsI,zpI,Prod.exists] at h
    obtain ⟨_,_,h4,_,_,h5,_,h6,_,rfl⟩:=h
    exact Mild.block (zfc h1) ((((ih.expr h2).trans (zak h3)).trans (ih.expr h4)).trans (zai h5)) (zaz h6)
   ·simp only [zbE,zsI,zpI,Prod.exists] at h
    obtain ⟨_,_,h5,_,h6,_,rfl⟩:=h
    exact Mild.block (zfc h1) (((ih.expr h2).trans (zak h3)).trans (zai h5)) (zaz h6)
end
end Go.Proofs.YtckhafpejefbbaaGreatDoor.Tw 
namespace Go.Proofs.YtckhafpejefbbaaGreatDoor.Tw
open Go
structure zwa (l:List UInt8) (ts:List Tok):Prop where
 few:ts.length<=301
 pos:0<ts.length
 last:∃e,ts[ts.length-1]? = some e/\e.sort=0
 ahead:∀(i:Nat) (t:Tok),i+1<ts.length->ts[i]? = some t->t.sort≠0
 place:∀(i:Nat) (t:Tok),ts[i]? = some t->t.fr<=t.to/\t.to<=l.length
 value:∀(i:Nat) (t:Tok),ts[i]? = some t->t.sort=2->∃v,zfs (zaw l t.fr t.to)=some v
def PS.rem (ts:List Tok) (st:PS):Nat:=if st.stuck then 0 else ts.length-st.next
structure PS.ok (ts:List Tok) (st:PS):Prop where
 deep:st.depth<=41
 live:st.stuck=false->st.depth<=40/\st.next<ts.length
variable {l : List UInt8} {ts : List Tok} (G : zwa l ts)
include G
set_option linter.unusedSectionVars false
theorem zmd {st:PS} (h:st.ok ts):∃t,tokS ts st=some t/\(st.stuck=true->t.sort=0)/\(st.stuck=false->ts[st.next]? = some t)/\(t.sort≠0->st.stuck=false/\st.next+1<ts.length)/\t.fr<=t.to/\t.to<=l.length/\(t.sort=2->∃v,zfs (zaw l t.fr t.to)=some v):=by
 obtain ⟨e,he,h0⟩:=G.last
 unfold tokS
 cases hs:st.stuck with
 | true =>
  refine ⟨e,by simpa using he,fun _=>h0,fun h=>by simp at h,fun h=>absurd h0 h,(G.place _ _ he).1,(G.place _ _ he).2,fun h=>by omega⟩
 | false =>
  have hn:=(h.live hs).2
  have ht:ts[st.next]? = some ts[st.next]:=List.getElem?_eq_getElem hn
  refine ⟨ts[st.next],by simp,fun h=>by simp at h,fun _=>ht,fun h2=>⟨rfl,?_⟩,(G.place _ _ ht).1,(G.place _ _ ht).2,fun h2=>G.value _ _ ht h2⟩
  rcases Nat.lt_or_ge (st.next+1) ts.length with h3 | h3
  ·exact h3
  ·have:st.next=ts.length-1:=by omega
   have e2:ts[st.next]? = some e:=by rw [this]; exact he
   rw [ht] at e2
   exact absurd (by rw [Option.some.inj e2]; exact h0) h2
theorem zk8 {st:PS} (h:st.stuck=true):st.rem ts=0:=by simp [PS.rem,h]
theorem zqo {st:PS} (h:st.ok ts) (hs:st.stuck=false):0<st.rem ts:=by
 have:=(h.live hs).2
 simp [PS.rem,hs]
 omega
theorem zm5 {st:PS} (h:st.ok ts):∃st',zh6 ts st=some st'/\st'.ok ts/\st'.stuck=true/\st'.depth=st.depth:=by
 obtain ⟨t,ht,_⟩:=zmd G h
 unfold zh6
 cases hs:st.stuck with
 | true=>exact ⟨st,by simp,h,hs,rfl⟩
 | false =>
  rw [ht]
  exact ⟨{st with stuck:=true,fault:=t.fr},by simp,⟨h.deep,fun h'=>by simp at h'⟩,rfl,rfl⟩
theorem zd4 {st:PS} (h:st.ok ts) (s:Int) (h0:s≠0):∃t st',zbe ts s st=some (t,st')/\st'.ok ts/\st'.rem ts<=st.rem ts/\(st.stuck=false->st'.rem ts<st.rem ts)/\st'.depth=st.depth/\t.fr<=t.to/\t.to<=l.length:=by
 obtain ⟨t,ht,h1,h2,h3,h4,h5,_⟩:=zmd G h
 obtain ⟨sf,hf,hf1,hf2,hf3⟩:=zm5 G h
 unfold zbe
 rw [ht]
 simp only [zbS]
 by_cases hts:t.sort=s
 ·rw [if_pos hts,if_neg h0]
  obtain ⟨hs,hn⟩:=h3 (by rw [hts]; exact h0)
  have hl:=h.live hs
  rw [if_pos (by have:=G.few; omega)]
  refine ⟨t,_,rfl,⟨h.deep,fun _=>⟨hl.1,hn⟩⟩,?_,fun _ => ?_,rfl,h4,h5⟩
  ·simp [PS.rem,hs]; omega
  ·simp [PS.rem,hs]; omega
 ·rw [if_neg hts,hf]
  refine ⟨t,sf,rfl,hf1,by rw [zk8 G hf2]; omega,fun hs => ?_,hf3,h4,h5⟩
  rw [zk8 G hf2]
  exact zqo G h hs
theorem zm6 {st:PS} (h:st.ok ts):∀(g:List Int),(∀x∈g,x≠0)->∃k st',zao ts g st=some (k,st')/\st'.ok ts/\st'.rem ts<=st.rem ts/\(k≠0->st'.rem ts<st.rem ts)/\st'.depth=st.depth
 | [],_=>⟨0,st,rfl,h,znL _,fun h=>absurd rfl h,rfl⟩
 | s::g,hg=>by
  obtain ⟨t,ht,h1,h2,h3,h4,h5,_⟩:=zmd G h
  rw [zao,ht]
  simp only [zbS]
  by_cases hts:t.sort=s
  ·rw [if_pos hts]
   have hs0:=hg s (by simp)
   obtain ⟨hs,hn⟩:=h3 (by rw [hts]; exact hs0)
   obtain ⟨t',st',h6,h7,h8,h9,h10,_⟩:=zd4 G h s hs0
   rw [h6]
   exact ⟨_,st',rfl,h7,h8,fun _=>h9 hs,h10⟩
  ·rw [if_neg hts]
   exact zm6 h g (fun x hx=>hg x (by simp [hx]))
theorem zk9 {st:PS} (h:st.ok ts) (hs:st.stuck=false) (s:Int) (h0:s≠0):∃k st',zce ts s st=some (k,st')/\st'.ok ts/\st'.rem ts<st.rem ts/\st'.depth=st.depth+1:=by
 obtain ⟨sf,hf,hf1,hf2,hf3⟩:=zm5 G h
 have hl:=h.live hs
 have hr:=zqo G h hs
 unfold zce
 by_cases hd:st.depth=40
 ·rw [if_pos hd,hf]
  simp only [zbS]
  rw [if_pos (by omega)]
  have ok2:PS.ok ts {sf with depth:=sf.depth+1}:=⟨by simp; omega,fun h'=>by simp [hf2] at h'⟩
  obtain ⟨t',st',h6,h7,h8,h9,h10,_⟩:=zd4 G ok2 s h0
  rw [h6]
  refine ⟨_,st',rfl,h7,?_,by rw [h10]; simp; omega⟩
  have:PS.rem ts {sf with depth:=sf.depth+1}=0:=by simp [PS.rem,hf2]
  omega
 ·rw [if_neg hd]
  simp only [zbS]
  rw [if_pos (by omega)]
  have ok2:PS.ok ts {st with depth:=st.depth+1}:=⟨by simp; omega,fun _=>⟨by simp; omega,hl.2⟩⟩
  obtain ⟨t',st',h6,h7,h8,h9,h10,_⟩:=zd4 G ok2 s h0
  rw [h6]
  have:PS.rem ts {st with depth:=st.depth+1}=st.rem ts:=by simp [PS.rem]
  have:=h9 hs
  exact ⟨_,st',rfl,h7,by omega,by rw [h10]⟩
theorem zm7 {st:PS} (h:st.ok ts) (hd:0<st.depth):∃st',endS st=some st'/\st'.ok ts/\st'.rem ts=st.rem ts:=by
 unfold endS
 rw [if_neg (by omega)]
 exact ⟨_,rfl,⟨by have:=h.deep; simp; omega,fun h'=>by have:=h.live h'; simp; omega⟩,rfl⟩
theorem zqp {st:PS} (h:st.ok ts):∃b st',zct l ts st=some (b,st')/\st'.ok ts/\st'.rem ts<=st.rem ts/\st'.depth=st.depth:=by
 obtain ⟨t,st',h1,h2,h3,_,h5,h6,h7⟩:=zd4 G h 1 (by omega)
 unfold zct
 rw [h1]
 simp only [zbS]
 rw [if_pos ⟨h6,h7⟩]
 exact ⟨_,st',rfl,h2,h3,h5⟩
theorem ycz {t:Tok} (h4:t.fr<=t.to) (h5:t.to<=l.length) (h6:t.sort=2->∃v,zfs (zaw l t.fr t.to)=some v):∃x,zeq l t=some x:=by
 unfold zeq
 split
 ·rename_i h2
  obtain ⟨v,hv⟩:=h6 h2
  rw [if_pos ⟨h4,h5⟩,hv]
  exact ⟨_,rfl⟩
 ·split
  ·exact ⟨_,rfl⟩
  ·split
   ·exact ⟨_,rfl⟩
   ·rw [if_pos ⟨h4,h5⟩]; exact ⟨_,rfl⟩
omit G in
def Part.c:Part->Nat
 | .term=>8
 | .call=>5
omit G in
theorem Part.yc0 (p:Part):5<=p.c/\p.c<=8:=by cases p <;> simp [Part.c]
omit G in
structure TAll (l:List UInt8) (ts:List Tok) (n:Nat):Prop where
 expr:∀ {st},st.ok ts->20 * st.rem ts+12<=n->∃x st',za6 l ts n st=some (x,st')/\st'.ok ts/\st'.rem ts<=st.rem ts
 lett:∀ {st},st.ok ts->st.stuck=false->20 * st.rem ts+1<=n->∃x st',letS l ts n st=some (x,st')/\st'.ok ts/\st'.rem ts<=st.rem ts
 fn:∀ {st},st.ok ts->st.stuck=false->20 * st.rem ts+1<=n->∃x st',funS l ts n st=some (x,st')/\st'.ok ts/\st'.rem ts<=st.rem ts
 cond:∀ {st},st.ok ts->st.stuck=false->20 * st.rem ts+1<=n->∃x st',zco l ts n st=some (x,st')/\st'.ok ts/\st'.rem ts<=st.rem ts
 cmp:∀ {st},st.ok ts->20 * st.rem ts+11<=n->∃x st',cmpS l ts n st=some (x,st')/\st'.ok ts/\st'.rem ts<=st.rem ts
 sum:∀ {st},st.ok ts->20 * st.rem ts+10<=n->∃x st',sumS l ts n st=some (x,st')/\st'.ok ts/\st'.rem ts<=st.rem ts
 term:∀ {st},st.ok ts->20 * st.rem ts+7<=n->∃x st',zci l ts n st=some (x,st')/\st'.ok ts/\st'.rem ts<=st.rem ts
 part:∀ {p st},st.ok ts->20 * st.rem ts+p.c<=n->∃x st',zbc l ts n p st=some (x,st')/\st'.ok ts/\st'.rem ts<=st.rem ts
 chain:∀ {p g st},(∀x∈g,x≠0)->st.ok ts->20 * st.rem ts+(p.c+1)<=n->∃x st',zbf l ts n p g st=some (x,st')/\st'.ok ts/\st'.rem ts<=st.rem ts
 chainFrom:∀ {p g a st},(∀x∈g,x≠0)->st.ok ts->20 * st.rem ts+1<=n->∃x st',zan l ts n p g a st=some (x,st')/\st'.ok ts/\st'.rem ts<=st.rem ts
 call:∀ {st},st.ok ts->20 * st.rem ts+4<=n->∃x st',zcc l ts n st=some (x,st')/\st'.ok ts/\st'.rem ts<=st.rem ts
 callFrom:∀ {a st},st.ok ts->20 * st.rem ts+3<=n->∃x st',zar l ts n a st=some (x,st')/\st'.ok ts/\st'.rem ts<=st.rem ts
 atom:∀ {st},st.ok ts->20 * st.rem ts+2<=n->∃x st',zbv l ts n st=some (x,st')/\st'.ok ts/\st'.rem ts<=st.rem ts/\(st.stuck=false->st'.rem ts<st.rem ts)
 bracket:∀ {st},st.ok ts->st.stuck=false->20 * st.rem ts+1<=n->∃x st',za0 l ts n st=some (x,st')/\st'.ok ts/\st'.rem ts<st.rem ts
theorem zyz:∀n,TAll l ts n
 | 0=>by constructor <;> intros <;> first | omega | (rename_i p _ _ hn; have:=p.yc0; omega)
 | n+1=>by
  have ih:=zyz n
  have hM:=zbp l ts n
  constructor
  ·intro st h hn
   obtain ⟨t,ht,h1,h2,h3,_⟩:=zmd G h
   rw [za6,ht]
   simp only [zbS]
   split
   ·rename_i hs; exact ih.lett h (h3 (by omega)).1 (by omega)
   ·split
    ·rename_i hs; exact ih.fn h (h3 (by omega)).1 (by omega)
    ·split
     ·rename_i hs; exact ih.cond h (h3 (by omega)).1 (by omega)
     ·exact ih.cmp h (by omega)
  ·intro st h hs hn
   obtain ⟨k,s1,e1,o1,r1,d1⟩:=zk9 G h hs 3 (by omega)
   obtain ⟨rc,s2,e2,o2,r2,_,d2⟩:=zm6 G o1 [4] (by simp)
   obtain ⟨bd,s3,e3,o3,r3,d3⟩:=zqp G o2
   obtain ⟨t4,s4,e4,o4,r4,_,d4,_⟩:=zd4 G o3 15 (by omega)
   obtain ⟨x5,s5,e5,o5,r5⟩:=ih.expr o4 (by omega)
   have d5:=(hM.expr e5).2
   obtain ⟨t6,s6,e6,o6,r6,_,d6,_⟩:=zd4 G o5 5 (by omega)
   obtain ⟨x7,s7,e7,o7,r7⟩:=ih.expr o6 (by omega)
   have d7:=(hM.expr e7).2
   obtain ⟨s8,e8,o8,r8⟩:=zm7 G o7 (by omega)
   rw [letS,e1]; simp only [zbS]; rw [e2]; simp only [zbS]; rw [e3]; simp only [zbS]; rw [e4]; simp only [zbS]; rw [e5]; simp only [zbS]; rw [e6]; simp only [zbS]; rw [e7]; simp only [zbS]; rw [e8]
   exact ⟨_,s8,rfl,o8,by omega⟩
  ·intro st h hs hn
   obtain ⟨k,s1,e1,o1,r1,d1⟩:=zk9 G h hs 6 (by omega)
   obtain ⟨bd,s3,e3,o3,r3,d3⟩:=zqp G o1
   obtain ⟨t4,s4,e4,o4,r4,_,d4,_⟩:=zd4 G o3 14 (by omega)
   obtain ⟨x5,s5,e5,o5,r5⟩:=ih.expr o4 (by omega)
   have d5:=(hM.expr e5).2
   obtain ⟨s8,e8,o8,r8⟩:=zm7 G o5 (by omega)
   rw [funS,e1]; simp only [zbS]; rw [e3]; simp only [zbS]; rw [e4]; simp only [zbS]; rw [e5]; simp only [zbS]; rw [e8]
   exact ⟨_,s8,rfl,o8,by omega⟩
  ·intro st h hs hn
   obtain ⟨k,s1,e1,o1,r1,d1⟩:=zk9 G h hs 7 (by omega)
   obtain ⟨x2,s2,e2,o2,r2⟩:=ih.expr o1 (by omega)
   have d2:=(hM.expr e2).2
   obtain ⟨t3,s3,e3,o3,r3,_,d3,_⟩:=zd4 G o2 8 (by omega)
   obtain ⟨x4,s4,e4,o4,r4⟩:=ih.expr o3 (by omega)
   have d4:=(hM.expr e4).2
   obtain ⟨t5,s5,e5,o5,r5,_,d5,_⟩:=zd4 G o4 9 (by omega)
   obtain ⟨x6,s6,e6,o6,r6⟩:=ih.expr o5 (by omega)
   have d6:=(hM.expr e6).2
   obtain ⟨s8,e8,o8,r8⟩:=zm7 G o6 (by omega)
   rw [zco,e1]; simp only [zbS]; rw [e2]; simp only [zbS]; rw [e3]; simp only [zbS]; rw [e4]; simp only [zbS]; rw [e5]; simp only [zbS]; rw [e6]; simp only [zbS]; rw [e8]
   exact ⟨_,s8,rfl,o8,by omega⟩
  ·intro st h hn
   obtain ⟨x1,s1,e1,o1,r1⟩:=ih.sum h (by omega)
   obtain ⟨k,s2,e2,o2,r2,r2',_⟩:=zm6 G o1 [23,15] (by simp)
   rw [cmpS,e1]; simp only [zbS]; rw [e2]; simp only [zbS]
   split
   ·exact ⟨_,s2,rfl,o2,by omega⟩
   ·rename_i hk
    have:=r2' hk
    obtain ⟨x3,s3,e3,o3,r3⟩:=ih.sum o2 (by omega)
    rw [e3]
    exact ⟨_,s3,rfl,o3,by omega⟩
  ·intro st h hn
   rw [sumS]
   exact ih.chain (p:=.term) (by simp) h (by simp [Part.c]; omega)
  ·intro st h hn
   rw [zci]
   exact ih.chain (p:=.call) (by simp) h (by simp [Part.c]; omega)
  ·intro p st h hn
   cases p with
   | term=>rw [zbc]; exact ih.term h (by simp [Part.c] at hn; omega)
   | call=>rw [zbc]; exact ih.call h (by simp [Part.c] at hn; omega)
  ·intro p g st hg h hn
   obtain ⟨x1,s1,e1,o1,r1⟩:=ih.part (p:=p) h (by omega)
   obtain ⟨x2,s2,e2,o2,r2⟩:=ih.chainFrom (p:=p) (a:=x1) hg o1 (by have:=p.yc0; omega)
   rw [zbf,e1]; simp only [zbS]; rw [e2]
   exact ⟨_,s2,rfl,o2,by omega⟩
  ·intro p g a st hg h hn
   obtain ⟨k,s1,e1,o1,r1,r1',_⟩:=zm6 G h g hg
   rw [zan,e1]; simp only [zbS]
   split
   ·exact ⟨_,s1,rfl,o1,r1⟩
   ·rename_i hk
    have:=r1' hk
    obtain ⟨x2,s2,e2,o2,r2⟩:=ih.part (p:=p) o1 (by have:=p.yc0; omega)
    rw [e2]; simp only [zbS]
    obtain ⟨x3,s3,e3,o3,r3⟩:=ih.chainFrom (p:=p) (a:=.binary a.fr x2.to k a x2) hg o2 (by omega)
    rw [e3]
    exact ⟨_,s3,rfl,o3,by omega⟩
  ·intro st h hn
   obtain ⟨x1,s1,e1,o1,r1,_⟩:=ih.atom h (by omega)
   obtain ⟨x2,s2,e2,o2,r2⟩:=ih.callFrom (a:=x1) o1 (by omega)
   rw [zcc,e1]; simp only [zbS]; rw [e2]
   exact ⟨_,s2,rfl,o2,by omega⟩
  ·intro a st h hn
   obtain ⟨t,ht,h1,h2,h3,_⟩:=zmd G h
   rw [zar,ht]; simp only [zbS]
   split
   ·rename_i hb
    have h0:t.sort≠0:=by intro e; rw [e] at hb; simp [zal] at hb
    obtain ⟨x1,s1,e1,o1,r1,r1'⟩:=ih.atom h (by omega)
    have:=r1' (h3 h0).1
    rw [e1]; simp only [zbS]
    obtain ⟨x2,s2,e2,o2,r2⟩:=ih.callFrom (a:=.call a.fr x1.to a x1) o1 (by omega)
    rw [e2]
    exact ⟨_,s2,rfl,o2,by omega⟩
   ·exact ⟨_,st,rfl,h,znL _⟩
  ·intro st h hn
   obtain ⟨t,ht,h1,h2,h3,h4,h5,h6⟩:=zmd G h
   rw [zbv,ht]; simp only [zbS]
   split
   ·rename_i hs
    obtain ⟨x1,s1,e1,o1,r1⟩:=ih.bracket h (h3 (by omega)).1 (by omega)
    exact ⟨x1,s1,e1,o1,by omega,fun _=>r1⟩
   ·split
    ·rename_i hb
     have h0:t.sort≠0:=by intro e; rw [e] at hb; simp [zal] at hb
     obtain ⟨t',s1,e1,o1,r1,r1',_⟩:=zd4 G h t.sort h0
     obtain ⟨x,hx⟩:=ycz G h4 h5 h6
     rw [e1]; simp only [zbS]; rw [hx]
     exact ⟨_,s1,rfl,o1,r1,r1'⟩
    ·obtain ⟨sf,hf,hf1,hf2,hf3⟩:=zm5 G h
     rw [hf]
     exact ⟨_,sf,rfl,hf1,by rw [zk8 G hf2]; omega,fun hs=>by rw [zk8 G hf2]; exact zqo G h hs⟩
  ·intro st h hs hn
   obtain ⟨k,s1,e1,o1,r1,d1⟩:=zk9 G h hs 16 (by omega)
   obtain ⟨x2,s2,e2,o2,r2⟩:=ih.expr o1 (by omega)
   have d2:=(hM.expr e2).2
   obtain ⟨c,s3,e3,o3,r3,r3',d3⟩:=zm6 G o2 [18] (by simp)
   rw [za0,e1]; simp only [zbS]; rw [e2]; simp only [zbS]; rw [e3]; simp only [zbS]
   split
   ·obtain ⟨x4,s4,e4,o4,r4⟩:=ih.expr o3 (by omega)
    have d4:=(hM.expr e4).2
    obtain ⟨t5,s5,e5,o5,r5,_,d5,_⟩:=zd4 G o4 17 (by omega)
    obtain ⟨s8,e8,o8,r8⟩:=zm7 G o5 (by omega)
    rw [e4]; simp only [zbS]; rw [e5]; simp only [zbS]; rw [e8]
    exact ⟨_,s8,rfl,o8,by omega⟩
   ·obtain ⟨t5,s5,e5,o5,r5,_,d5,_⟩:=zd4 G o3 17 (by omega)
    obtain ⟨s8,e8,o8,r8⟩:=zm7 G o5 (by omega)
    rw [e5]; simp only [zbS]; rw [e8]
    exact ⟨_,s8,rfl,o8,by omega⟩
theorem ya5 (n:Nat) (hn:6100<=n):∃r,zb9 l ts n=some r:=by
 have o:PS.ok ts ⟨0,0,false,0⟩:=⟨by simp,fun _=>⟨by simp,G.pos⟩⟩
 have hr:PS.rem ts ⟨0,0,false,0⟩<=301:=by have:=G.few; simp [PS.rem]; omega
 obtain ⟨x,st,h1,o1,_⟩:=(zyz G n).expr o (by omega)
 obtain ⟨t,ht,_⟩:=zmd G o1
 obtain ⟨sf,hf,_⟩:=zm5 G o1
 unfold zb9
 rw [h1]
 simp only [zbS]
 unfold zbe
 rw [ht]
 simp only [zbS,if_true]
 split
 ·exact ⟨_,rfl⟩
 ·rw [hf]; exact ⟨_,rfl⟩
end Go.Proofs.YtckhafpejefbbaaGreatDoor.Tw 
namespace Go.Proofs.YtckhafpejefbbaaGreatDoor.Tw
open Go
theorem zls:∀(d:List UInt8) (acc k:Nat),(∀c∈d,zas c.toNat=true)->acc<10 ^ k->d.length+k<=18->∃u,Lib.parseUintM (2 ^ 64-1) acc d = .ok u/\u<10 ^ (d.length+k)
 | [],acc,k,_,ha,_=>⟨acc,rfl,by simpa using ha⟩
 | c::r,acc,k,hd,ha,hl=>by
  have hc:=hd c (by simp)
  simp only [zas,decide_eq_true_eq] at hc
  have hk:acc<10 ^ 17:=Nat.lt_of_lt_of_le ha (Nat.pow_le_pow_right (by omega) (by simp at hl; omega))
  rw [Lib.parseUintM,if_pos (by omega),if_neg (by omega),if_neg (by omega)]
  obtain ⟨u,h1,h2⟩:=zls r (acc * 10+(c.toNat-48)) (k+1) (fun x hx=>hd x (by simp [hx])) (by rw [Nat.pow_succ]; omega) (by simp at hl; omega)
  exact ⟨u,h1,by rw [List.length_cons,show r.length+1+k=r.length+(k+1) by omega]; exact h2⟩
theorem zte {d:List UInt8} (h0:d ≠ []) (hd:∀c∈d,zas c.toNat=true) (hl:d.length<=9):∃v,zfs d=some v:=by
 cases d with
 | nil=>exact absurd rfl h0
 | cons c r =>
  have hc:=hd c (by simp)
  simp only [zas,decide_eq_true_eq] at hc
  obtain ⟨u,h1,h2⟩:=zls (c::r) 0 0 hd (by simp) (by omega)
  have hu:u<10 ^ 9:=Nat.lt_of_lt_of_le h2 (Nat.pow_le_pow_right (by omega) (by simpa using hl))
  unfold zfs Lib.parseIntB
  simp only
  rw [if_neg (show ¬(c.toNat=43\/c.toNat=45) by omega),Lib.parseUintB,if_neg (by simp),h1]
  simp only
  rw [if_neg (by omega),if_neg (by omega)]
  exact ⟨_,rfl⟩
theorem zfe (p:Int->Bool) (m:List UInt8):∀c∈runL p m,p c.toNat=true:=by
 intro c hc
 have:=List.all_takeWhile (p:=fun c:UInt8=>p c.toNat) (l:=m)
 exact List.all_eq_true.1 this c hc
theorem zf2 (p:Int->Bool):∀m:List UInt8,m.take (runL p m).length=runL p m
 | []=>rfl
 | c::m=>by
  unfold runL
  rw [List.takeWhile_cons]
  split
  ·simp only [List.length_cons,List.take_succ_cons]
   have:=zf2 p m
   unfold runL at this
   rw [this]
  ·rfl
theorem zm8 (l:List UInt8):zf6 l≠0/\zf6 l≠2:=by
 unfold zf6
 repeat' split
 all_goals simp
theorem zxm (c:Int):(zfw c).2≠0->(zfw c).1≠0/\(zfw c).1≠2:=by
 unfold zfw
 repeat' split
 all_goals simp
theorem zxn {m:List UInt8} (h0:(zah m).2≠0):(zah m).1≠0/\((zah m).1=2->m.take (zah m).2.toNat ≠ []/\(∀c∈m.take (zah m).2.toNat,zas c.toNat=true)/\(m.take (zah m).2.toNat).length<=9):=by
 unfold zah at h0 ⊢
 split at h0
 ·rename_i h1
  simp only [h1,if_true]
  unfold zh5 at h0 ⊢
  split at h0
  ·simp at h0
  ·rename_i h2
   rw [if_neg h2]
   exact ⟨(zm8 _).1,fun h=>absurd h (zm8 _).2⟩
 ·rename_i h1
  rw [if_neg h1]
  split at h0
  ·rename_i h2
   simp only [h2,if_true]
   unfold zdm at h0 ⊢
   split at h0
   ·simp at h0
   ·rename_i h3
    rw [if_neg h3]
    refine ⟨by simp,fun _ => ?_⟩
    have e:m.take ((2:Int),((runL zas m).length:Int)).2.toNat=runL zas m:=by
     show m.take (Int.toNat _)=_
     rw [Int.toNat_natCast,zf2]
    rw [e]
    exact ⟨fun e=>by rw [e] at h0; simp at h0,zfe _ _,by omega⟩
  ·rename_i h2
   rw [if_neg h2]
   split at h0
   ·rename_i h3
    simp [h3]
   ·rename_i h3
    rw [if_neg h3]
    have:=zxm _ h0
    exact ⟨this.1,fun h=>absurd h this.2⟩
structure TokOf (off:Nat) (m:List UInt8) (t:Tok):Prop where
 sort:t.sort≠0
 low:off<=t.fr
 lt:t.fr<t.to
 high:t.to<=off+m.length
 int:t.sort=2->zaw m (t.fr-off) (t.to-off) ≠ []/\(∀c∈zaw m (t.fr-off) (t.to-off),zas c.toNat=true)/\(zaw m (t.fr-off) (t.to-off)).length<=9
theorem TokOf.later {off k:Nat} {m:List UInt8} {t:Tok} (hk:k<=m.length) (h:TokOf (off+k) (m.drop k) t):TokOf off m t:=by
 have h2:=h.low
 have h3:=h.lt
 have h4:=h.high
 simp only [List.length_drop] at h4
 have e:zaw (m.drop k) (t.fr-(off+k)) (t.to-(off+k))=zaw m (t.fr-off) (t.to-off):=by
  unfold zaw
  rw [List.drop_drop]
  congr 1
  ·omega
  ·congr 1; omega
 refine ⟨h.sort,by omega,h3,by omega,fun h5 => ?_⟩
 have:=h.int h5
 rw [e] at this
 exact this
theorem Lex.toks:∀ {off:Nat} {m:List UInt8} {ts:List Tok},Lex off m ts->(∀t∈ts,TokOf off m t)/\ts.length<=m.length:=by
 intro off m ts h
 induction h with
 | nil=>simp
 | @gap off m ts h hg hr ih =>
  have hl:0<m.length:=List.length_pos_iff.2 h
  have g1:=zex m hl
  have hk:(gapL m).toNat<=m.length:=by omega
  refine ⟨fun t ht=>(ih.1 t ht).later hk,?_⟩
  have:=ih.2
  simp only [List.length_drop] at this
  omega
 | @tok off m ts h hg h0 hr ih =>
  have hl:0<m.length:=List.length_pos_iff.2 h
  have f1:=zde m hl
  have hk:(zah m).2.toNat<=m.length:=by omega
  refine ⟨fun t ht => ?_,?_⟩
  ·simp only [zmC] at ht
   rcases ht with rfl | ht
   ·obtain ⟨a,b⟩:=zxn h0
    refine ⟨a,znL _,by simp; omega,by simp; omega,fun h5 => ?_⟩
    have:=b h5
    have e:zaw m (off-off) (off+(zah m).2.toNat-off)=m.take (zah m).2.toNat:=by
     unfold zaw
     rw [Nat.sub_self,List.drop_zero,Nat.sub_zero,Nat.add_sub_cancel_left]
    simp only
    rw [e]
    exact this
   ·exact (ih.1 t ht).later hk
  ·have:=ih.2
   simp only [List.length_drop] at this
   simp
   omega
theorem zxo {l:List UInt8} {ts:List Tok} (h:split l = .ok ts) (hl:l.length<=300):zwa l ts:=by
 obtain ⟨body,hL,rfl⟩:=zje.1 h
 obtain ⟨h1,h2⟩:=hL.toks
 have at_:∀(i:Nat) (t:Tok),(body ++ [⟨0,l.length,l.length⟩])[i]? = some t->(i<body.length/\t∈body)\/t=⟨0,l.length,l.length⟩:=by
  intro i t hi
  rcases Nat.lt_or_ge i body.length with hb | hb
  ·rw [List.getElem?_append_left hb] at hi
   exact .inl ⟨hb,List.mem_of_getElem? hi⟩
  ·rw [List.getElem?_append_right hb] at hi
   have:=List.mem_of_getElem? hi
   simp only [List.mem_singleton] at this
   exact .inr this
 refine ⟨by simp; omega,by simp,⟨⟨0,l.length,l.length⟩,by simp,rfl⟩,?_,?_,?_⟩
 ·intro i t hi ht
  rw [List.getElem?_append_left (by simp at hi; omega)] at ht
  exact (h1 t (List.mem_of_getElem? ht)).sort
 ·intro i t ht
  rcases at_ i t ht with ⟨_,hb⟩ | rfl
  ·have:=h1 t hb
   have a:=this.lt
   have b:=this.high
   omega
  ·simp
 ·intro i t ht hs
  rcases at_ i t ht with ⟨_,hb⟩ | rfl
  ·have:=(h1 t hb).int hs
   simp only [Nat.sub_zero] at this
   exact zte this.1 this.2.1 this.2.2
  ·simp at hs
open Go
structure Mv where
 fr:Nat->Nat
 to:Nat->Nat
 val:Nat->Int->Int
 nm:Nat->List UInt8->List UInt8
def Tok.re (m:Mv) (t:Tok):Tok:=⟨t.sort,m.fr t.fr,m.to t.to⟩
def T.re (m:Mv):T->T
 | .name f t x=>.name (m.fr f) (m.to t) (m.nm f x)
 | .int f t x=>.int (m.fr f) (m.to t) (m.val f x)
 | .truth f t x=>.truth (m.fr f) (m.to t) x
 | .side f t x=>.side (m.fr f) (m.to t) x
 | .bracket f t i=>.bracket (m.fr f) (m.to t) (i.re m)
 | .pair f t x y=>.pair (m.fr f) (m.to t) (x.re m) (y.re m)
 | .call f t x y=>.call (m.fr f) (m.to t) (x.re m) (y.re m)
 | .binary f t s x y=>.binary (m.fr f) (m.to t) s (x.re m) (y.re m)
 | .cond f t x y z=>.cond (m.fr f) (m.to t) (x.re m) (y.re m) (z.re m)
 | .fn f t n k x=>.fn (m.fr f) (m.to t) (m.nm k n) (m.fr k) (x.re m)
 | .lett f t r n k x y=>.lett (m.fr f) (m.to t) r (m.nm k n) (m.fr k) (x.re m) (y.re m)
theorem T.yc1 (m:Mv) (t:T):(t.re m).fr=m.fr t.fr:=by cases t <;> rfl
theorem T.zsg (m:Mv) (t:T):(t.re m).to=m.to t.to:=by cases t <;> rfl
def T.deep:T->Nat
 | .name _ _ _ | .int _ _ _ | .truth _ _ _ | .side _ _ _=>0
 | .bracket _ _ i=>1+i.deep
 | .pair _ _ x y=>1+max x.deep y.deep
 | .call _ _ x y=>max x.deep y.deep
 | .binary _ _ _ x y=>max x.deep y.deep
 | .cond _ _ x y z=>1+max x.deep (max y.deep z.deep)
 | .fn _ _ _ _ x=>1+x.deep
 | .lett _ _ _ _ _ x y=>1+max x.deep y.deep
def zbt (s:Int):Bool:=decide (s ∉ [23,15,19,20,21,22,1,2,10,11,12,13,16])
structure Emb (l1 l2:List UInt8) (ts1 ts2:List Tok) (o:Nat) (m:Mv) (N:Nat):Prop where
 tok:∀i,i<N->∃t,ts1[i]? = some t/\ts2[i+o]? = some (t.re m)/\t.sort≠0/\(m.fr t.fr<=m.to t.to/\m.to t.to<=l2.length) /\
  (t.sort=2->∀v,zfs (zaw l1 t.fr t.to)=some v->zfs (zaw l2 (m.fr t.fr) (m.to t.to))=some (m.val t.fr v))/\(t.sort≠2->zaw l2 (m.fr t.fr) (m.to t.to)=m.nm t.fr (zaw l1 t.fr t.to))
 eof:∃t,ts1[N]? = some t/\t.sort=0
 stop:∃t,ts2[N+o]? = some t/\zbt t.sort=true
 few:N+o<=300
structure Sim (o dd N:Nat) (s1 s2:PS):Prop where
 k1:s1.stuck=false
 k2:s2.stuck=false
 nx:s2.next=s1.next+o
 dp:s2.depth=s1.depth+dd
 le:s1.next<=N
variable {l1 l2 : List UInt8} {ts1 ts2 : List Tok} {o N dd : Nat} {m : Mv}
def zwb (l1 l2:List UInt8) (m:Mv) (t:Tok):Prop:=(m.fr t.fr<=m.to t.to/\m.to t.to<=l2.length) /\
  (t.sort=2->∀v,zfs (zaw l1 t.fr t.to)=some v->zfs (zaw l2 (m.fr t.fr) (m.to t.to))=some (m.val t.fr v))/\(t.sort≠2->zaw l2 (m.fr t.fr) (m.to t.to)=m.nm t.fr (zaw l1 t.fr t.to))
theorem Sim.toks (E:Emb l1 l2 ts1 ts2 o m N) {s1 s2:PS} (S:Sim o dd N s1 s2) :
  (s1.next<N/\∃t,tokS ts1 s1=some t/\tokS ts2 s2=some (t.re m)/\t.sort≠0/\zwb l1 l2 m t) \/
  (s1.next=N/\∃t u,tokS ts1 s1=some t/\tokS ts2 s2=some u/\t.sort=0/\zbt u.sort=true):=by
 have e1:tokS ts1 s1=ts1[s1.next]? := by simp [tokS,S.k1]
 have e2:tokS ts2 s2=ts2[s1.next+o]? := by simp [tokS,S.k2,S.nx]
 rw [e1,e2]
 rcases Nat.lt_or_ge s1.next N with h | h
 ·obtain ⟨t,h1,h2,h3,h4⟩:=E.tok _ h
  exact .inl ⟨h,t,h1,h2,h3,h4⟩
 ·have hN:s1.next=N:=by have:=S.le; omega
  obtain ⟨t,h1,h2⟩:=E.eof
  obtain ⟨u,h3,h4⟩:=E.stop
  rw [hN]
  exact .inr ⟨rfl,t,u,h1,h3,h2,h4⟩
theorem ze2 {ts:List Tok} {s:Int} {st st':PS} {t:Tok} (h:zbe ts s st=some (t,st')) (hs:st'.stuck=false) (h0:s≠0):tokS ts st=some t/\t.sort=s/\st' = {st with next:=st.next+1}/\st.next<=300:=by
 unfold zbe at h
 obtain ⟨t0,ht,h⟩:=zbE.1 h
 split at h
 ·rename_i hq
  split at h
  ·rename_i hn
   cases h
   exact ⟨ht,hq,rfl,hn⟩
  ·cases h
 ·obtain ⟨s1,h1,h⟩:=zbE.1 h
  cases h
  rw [(zcm h1).1] at hs
  cases hs
theorem Sim.take (E:Emb l1 l2 ts1 ts2 o m N) {s1 s2 s1':PS} (S:Sim o dd N s1 s2) {s:Int} {t:Tok} (h:zbe ts1 s s1=some (t,s1')) (hs:s1'.stuck=false) (h0:s≠0) :
  s1.next<N/\zwb l1 l2 m t/\∃s2',zbe ts2 s s2=some (t.re m,s2')/\Sim o dd N s1' s2'/\s1'.depth=s1.depth:=by
 obtain ⟨ht,hq,rfl,hn⟩:=ze2 h hs h0
 rcases S.toks E with ⟨hl,t',e1,e2,e3,e4⟩ | ⟨_,t',u,e1,_,e3,_⟩
 ·rw [ht] at e1
  cases e1
  refine ⟨hl,e4,{s2 with next:=s2.next+1},?_,⟨S.k1,S.k2,by simp [S.nx]; omega,S.dp,by simp; omega⟩,rfl⟩
  unfold zbe
  rw [e2]
  have hq2:(t.re m).sort=s:=hq
  have hn2:s2.next<=300:=by have:=S.nx; have:=E.few; omega
  simp [hq2,h0,hn2]
 ·rw [ht] at e1
  cases e1
  exact absurd (hq.symm.trans e3) h0
theorem Sim.takeAny (E:Emb l1 l2 ts1 ts2 o m N) {s1 s2:PS} (S:Sim o dd N s1 s2):∀ {g:List Int},(∀x∈g,x≠0)->(∀x∈g,zbt x=false)\/s1.next<N->∀ {k:Int} {s1':PS},zao ts1 g s1=some (k,s1')->s1'.stuck=false ->
  ∃s2',zao ts2 g s2=some (k,s2')/\Sim o dd N s1' s2'/\s1'.depth=s1.depth
 | [],_,_,k,s1',h,_=>by
  cases h
  exact ⟨s2,rfl,S,rfl⟩
 | x::g,h0,hg,k,s1',h,hs=>by
  rw [zao] at h
  obtain ⟨t,ht,h⟩:=zbE.1 h
  have ih:∀ {k:Int} {s1':PS},zao ts1 g s1=some (k,s1')->s1'.stuck=false->∃s2',zao ts2 g s2=some (k,s2')/\Sim o dd N s1' s2'/\s1'.depth=s1.depth:=Sim.takeAny E S (g:=g) (fun y hy=>h0 y (by simp [hy])) (hg.imp (fun hh y hy=>hh y (by simp [hy])) id)
  rcases S.toks E with ⟨hl,t',e1,e2,e3,e4⟩ | ⟨hN,t',u,e1,e2,e3,e4⟩
  ·rw [ht] at e1
   cases e1
   split at h
   ·rename_i hx
    obtain ⟨⟨t2,s2''⟩,h1,h⟩:=zbE.1 h
    cases h
    obtain ⟨_,_,s2',q1,q2,q3⟩:=S.take E h1 hs (h0 x (by simp))
    refine ⟨s2',?_,q2,q3⟩
    rw [zao,e2]
    have hx2:(t.re m).sort=x:=hx
    rw [zbS,if_pos hx2,q1]
    rfl
   ·rename_i hx
    obtain ⟨s2',q1,q2,q3⟩:=ih h hs
    refine ⟨s2',?_,q2,q3⟩
    rw [zao,e2]
    have hx2:¬(t.re m).sort=x:=hx
    simp [hx2,q1]
  ·rw [ht] at e1
   cases e1
   have hx:¬t.sort=x:=by rw [e3]; exact fun e=>h0 x (by simp) e.symm
   rw [if_neg hx] at h
   rcases hg with hg | hg
   ·obtain ⟨s2',q1,q2,q3⟩:=ih h hs
    refine ⟨s2',?_,q2,q3⟩
    rw [zao,e2]
    have hx2:¬u.sort=x:=by
     intro e
     have:=hg x (by simp)
     rw [<-e,e4] at this
     cases this
    simp [hx2,q1]
   ·omega
theorem Sim.begin (E:Emb l1 l2 ts1 ts2 o m N) {s1 s2 s1':PS} (S:Sim o dd N s1 s2) {s:Int} {k:Nat} (h:zce ts1 s s1=some (k,s1')) (hs:s1'.stuck=false) (h0:s≠0) (hd:s2.depth<40) :
  ∃s2',zce ts2 s s2=some (m.fr k,s2')/\Sim o dd N s1' s2'/\s1'.depth=s1.depth+1:=by
 have hd1:¬s1.depth=40:=by have:=S.dp; omega
 unfold zce at h
 rw [if_neg hd1,zbS] at h
 split at h
 ·obtain ⟨⟨t1,s3⟩,h2,h⟩:=zbE.1 h
  cases h
  have S1:Sim o dd N {s1 with depth:=s1.depth+1} {s2 with depth:=s2.depth+1}:=⟨S.k1,S.k2,S.nx,by simp [S.dp]; omega,S.le⟩
  obtain ⟨_,_,s2',q1,q2,q3⟩:=S1.take E h2 hs h0
  refine ⟨s2',?_,q2,q3⟩
  unfold zce
  rw [if_neg (by omega),zbS,if_pos (by omega),q1]
  rfl
 ·cases h
theorem Sim.end {s1 s2 s1':PS} (S:Sim o dd N s1 s2) (h:endS s1=some s1'):∃s2',endS s2=some s2'/\Sim o dd N s1' s2'/\s1.depth=s1'.depth+1:=by
 unfold endS at h
 split at h
 ·cases h
 ·rename_i h0
  cases h
  have:=S.dp
  refine ⟨{s2 with depth:=s2.depth-1},by unfold endS; rw [if_neg (by omega)],⟨S.k1,S.k2,S.nx,by simp; omega,S.le⟩,by simp; omega⟩
theorem Sim.binder (E:Emb l1 l2 ts1 ts2 o m N) {s1 s2 s1':PS} (S:Sim o dd N s1 s2) {x:List UInt8} {k:Nat} (h:zct l1 ts1 s1=some ((x,k),s1')) (hs:s1'.stuck=false) :
  s1.next<N/\∃s2',zct l2 ts2 s2=some ((m.nm k x,m.fr k),s2')/\Sim o dd N s1' s2'/\s1'.depth=s1.depth:=by
 unfold zct at h
 obtain ⟨⟨t,s3⟩,h1,h⟩:=zbE.1 h
 split at h
 ·rename_i hp
  cases h
  obtain ⟨hl,q0,s2',q1,q2,q3⟩:=S.take E h1 hs (by decide)
  obtain ⟨ht,hsort,_,_⟩:=ze2 h1 hs (by decide)
  refine ⟨hl,s2',?_,q2,q3⟩
  unfold zct
  rw [q1,zbS]
  have hp2:(t.re m).fr<=(t.re m).to/\(t.re m).to<=l2.length:=q0.1
  simp only [hp2,and_self,if_true]
  rw [show zaw l2 (t.re m).fr (t.re m).to=m.nm t.fr (zaw l1 t.fr t.to) from q0.2.2 (by rw [hsort]; decide)]
  rfl
 ·cases h
theorem yc2 {t:Tok} (hq:zwb l1 l2 m t) {x:T} (h:zeq l1 t=some x):zeq l2 (t.re m)=some (x.re m)/\x.deep=0:=by
 have hc':(t.re m).fr<=(t.re m).to/\(t.re m).to<=l2.length:=hq.1
 unfold zeq at h ⊢
 split at h
 ·rename_i hq2
  rw [if_pos (show (t.re m).sort=2 from hq2),if_pos hc']
  split at h
  ·obtain ⟨v,hv,h⟩:=zbE.1 h
   cases h
   rw [show zfs (zaw l2 (t.re m).fr (t.re m).to)=some (m.val t.fr v) from hq.2.1 hq2 v hv]
   exact ⟨rfl,rfl⟩
  ·cases h
 ·rename_i hq0
  rw [if_neg (show ¬(t.re m).sort=2 from hq0)]
  split at h
  ·rename_i hq2
   rw [if_pos (show (t.re m).sort=10\/(t.re m).sort=11 from hq2)]
   cases h
   exact ⟨rfl,rfl⟩
  ·rename_i hq2
   rw [if_neg (show ¬((t.re m).sort=10\/(t.re m).sort=11) from hq2)]
   split at h
   ·rename_i hq3
    rw [if_pos (show (t.re m).sort=12\/(t.re m).sort=13 from hq3)]
    cases h
    exact ⟨rfl,rfl⟩
   ·rename_i hq3
    rw [if_neg (show ¬((t.re m).sort=12\/(t.re m).sort=13) from hq3),if_pos hc',show zaw l2 (t.re m).fr (t.re m).to=m.nm t.fr (zaw l1 t.fr t.to) from hq.2.2 hq0]
    split at h
    ·cases h
     exact ⟨rfl,rfl⟩
    ·cases h
end Go.Proofs.YtckhafpejefbbaaGreatDoor.Tw 
namespace Go.Proofs.YtckhafpejefbbaaGreatDoor.Tw
open Go
theorem zhm (l:List UInt8) (ts:List Tok):∀(n:Nat) {p:Part} {g:List Int} {a r:T} {st st':PS},zan l ts n p g a st=some (r,st')->a.deep<=r.deep
 | 0,_,_,_,_,_,_,h=>by simp [zan] at h
 | n+1,p,g,a,r,st,st',h=>by
  simp only [zan,zbE,Prod.exists] at h
  obtain ⟨_,_,_,h⟩:=h
  split at h
  ·cases h; exact znL _
  ·simp only [zbE,Prod.exists] at h
   obtain ⟨_,_,_,h3⟩:=h
   have:=zhm l ts n h3
   simp only [T.deep] at this
   omega
theorem zpj (l:List UInt8) (ts:List Tok) {n:Nat} {p:Part} {g:List Int} {a b r:T} {f t:Nat} {s:Int} {st st':PS} (h:zan l ts n p g (.binary f t s a b) st=some (r,st')):b.deep<=r.deep:=by
 have:=zhm l ts n h
 simp only [T.deep] at this
 omega
theorem zil (l:List UInt8) (ts:List Tok):∀(n:Nat) {a r:T} {st st':PS},zar l ts n a st=some (r,st')->a.deep<=r.deep
 | 0,_,_,_,_,h=>by simp [zar] at h
 | n+1,a,r,st,st',h=>by
  simp only [zar,zbE] at h
  obtain ⟨_,_,h⟩:=h
  split at h
  ·simp only [zbE,Prod.exists] at h
   obtain ⟨_,_,_,h3⟩:=h
   have:=zil l ts n h3
   simp only [T.deep] at this
   omega
  ·cases h; exact znL _
variable {l1 l2 : List UInt8} {ts1 ts2 : List Tok} {o N dd : Nat} {m : Mv}
theorem Sim.one (E:Emb l1 l2 ts1 ts2 o m N) {s1 s2 s1':PS} (S:Sim o dd N s1 s2) {x k:Int} (hx:x≠0) (h:zao ts1 [x] s1=some (k,s1')) (hk:k≠0\/s1'.next<N):s1.next<N:=by
 rcases S.toks E with ⟨hl,_⟩ | ⟨hN,t,u,e1,e2,e3,e4⟩
 ·exact hl
 ·exfalso
  rw [zao,e1,zbS,if_neg (by rw [e3]; exact fun e=>hx e.symm),zao] at h
  cases h
  rcases hk with hk | hk
  ·exact hk rfl
  ·omega
variable (l1 l2 ts1 ts2 o m N dd)
structure SAll (n:Nat):Prop where
 expr:∀ {s1 s2 s1':PS} {r:T},Sim o dd N s1 s2->za6 l1 ts1 n s1=some (r,s1')->s1'.stuck=false->s2.depth+r.deep<=40->∃s2',za6 l2 ts2 n s2=some (r.re m,s2')/\Sim o dd N s1' s2'
 lett:∀ {s1 s2 s1':PS} {r:T},Sim o dd N s1 s2->letS l1 ts1 n s1=some (r,s1')->s1'.stuck=false->s2.depth+r.deep<=40->∃s2',letS l2 ts2 n s2=some (r.re m,s2')/\Sim o dd N s1' s2'
 fn:∀ {s1 s2 s1':PS} {r:T},Sim o dd N s1 s2->funS l1 ts1 n s1=some (r,s1')->s1'.stuck=false->s2.depth+r.deep<=40->∃s2',funS l2 ts2 n s2=some (r.re m,s2')/\Sim o dd N s1' s2'
 cond:∀ {s1 s2 s1':PS} {r:T},Sim o dd N s1 s2->zco l1 ts1 n s1=some (r,s1')->s1'.stuck=false->s2.depth+r.deep<=40->∃s2',zco l2 ts2 n s2=some (r.re m,s2')/\Sim o dd N s1' s2'
 cmp:∀ {s1 s2 s1':PS} {r:T},Sim o dd N s1 s2->cmpS l1 ts1 n s1=some (r,s1')->s1'.stuck=false->s2.depth+r.deep<=40->∃s2',cmpS l2 ts2 n s2=some (r.re m,s2')/\Sim o dd N s1' s2'
 sum:∀ {s1 s2 s1':PS} {r:T},Sim o dd N s1 s2->sumS l1 ts1 n s1=some (r,s1')->s1'.stuck=false->s2.depth+r.deep<=40->∃s2',sumS l2 ts2 n s2=some (r.re m,s2')/\Sim o dd N s1' s2'
 term:∀ {s1 s2 s1':PS} {r:T},Sim o dd N s1 s2->zci l1 ts1 n s1=some (r,s1')->s1'.stuck=false->s2.depth+r.deep<=40->∃s2',zci l2 ts2 n s2=some (r.re m,s2')/\Sim o dd N s1' s2'
 part:∀ {p:Part} {s1 s2 s1':PS} {r:T},Sim o dd N s1 s2->zbc l1 ts1 n p s1=some (r,s1')->s1'.stuck=false->s2.depth+r.deep<=40->∃s2',zbc l2 ts2 n p s2=some (r.re m,s2')/\Sim o dd N s1' s2'
 chain:∀ {p:Part} {g:List Int} {s1 s2 s1':PS} {r:T},(∀x∈g,x≠0)->(∀x∈g,zbt x=false)->Sim o dd N s1 s2->zbf l1 ts1 n p g s1=some (r,s1')->s1'.stuck=false->s2.depth+r.deep<=40->∃s2',zbf l2 ts2 n p g s2=some (r.re m,s2')/\Sim o dd N s1' s2'
 chainFrom:∀ {p:Part} {g:List Int} {a:T} {s1 s2 s1':PS} {r:T},(∀x∈g,x≠0)->(∀x∈g,zbt x=false)->Sim o dd N s1 s2->zan l1 ts1 n p g a s1=some (r,s1')->s1'.stuck=false->s2.depth+r.deep<=40->∃s2',zan l2 ts2 n p g (a.re m) s2=some (r.re m,s2')/\Sim o dd N s1' s2'
 call:∀ {s1 s2 s1':PS} {r:T},Sim o dd N s1 s2->zcc l1 ts1 n s1=some (r,s1')->s1'.stuck=false->s2.depth+r.deep<=40->∃s2',zcc l2 ts2 n s2=some (r.re m,s2')/\Sim o dd N s1' s2'
 callFrom:∀ {a:T} {s1 s2 s1':PS} {r:T},Sim o dd N s1 s2->zar l1 ts1 n a s1=some (r,s1')->s1'.stuck=false->s2.depth+r.deep<=40->∃s2',zar l2 ts2 n (a.re m) s2=some (r.re m,s2')/\Sim o dd N s1' s2'
 atom:∀ {s1 s2 s1':PS} {r:T},Sim o dd N s1 s2->zbv l1 ts1 n s1=some (r,s1')->s1'.stuck=false->s2.depth+r.deep<=40->∃s2',zbv l2 ts2 n s2=some (r.re m,s2')/\Sim o dd N s1' s2'
 bracket:∀ {s1 s2 s1':PS} {r:T},Sim o dd N s1 s2->za0 l1 ts1 n s1=some (r,s1')->s1'.stuck=false->s2.depth+r.deep<=40->∃s2',za0 l2 ts2 n s2=some (r.re m,s2')/\Sim o dd N s1' s2'
variable {l1 l2 ts1 ts2 o m N dd}
theorem Sim.dp2 {s1 s2 t1 t2:PS} (S:Sim o dd N s1 s2) (S':Sim o dd N t1 t2) (h:t1.depth=s1.depth):t2.depth=s2.depth:=by
 have:=S.dp
 have:=S'.dp
 omega
theorem yc3 (E:Emb l1 l2 ts1 ts2 o m N) {n:Nat} (ih:SAll l1 l2 ts1 ts2 o N dd m n):SAll l1 l2 ts1 ts2 o N dd m (n+1):=by
 have M:=zbp l1 ts1 n
 constructor
 case expr =>
  intro s1 s2 s1' r S h hs hd
  rw [za6] at h
  obtain ⟨t,ht,h⟩:=zbE.1 h
  rcases S.toks E with ⟨hl,t',e1,e2,e3,e4⟩ | ⟨hN,t',u,e1,e2,e3,e4⟩
  ·rw [ht] at e1
   cases e1
   rw [za6,e2,zbS]
   have hsort:(t.re m).sort=t.sort:=rfl
   rw [hsort]
   split at h
   ·rename_i q
    rw [if_pos q]
    exact ih.lett S h hs hd
   ·rename_i q
    rw [if_neg q]
    split at h
    ·rename_i q
     rw [if_pos q]
     exact ih.fn S h hs hd
    ·rename_i q
     rw [if_neg q]
     split at h
     ·rename_i q
      rw [if_pos q]
      exact ih.cond S h hs hd
     ·rename_i q
      rw [if_neg q]
      exact ih.cmp S h hs hd
  ·
   rw [ht] at e1
   cases e1
   exfalso
   rw [e3,if_neg (by decide),if_neg (by decide),if_neg (by decide)] at h
   have key:∀j {s s':PS} {q:T},s=s1->(zbv l1 ts1 j s=some (q,s')->s'.stuck=true):=by
    intro j s s' q hq hm
    subst hq
    cases j with
    | zero=>simp [zbv] at hm
    | succ j =>
     rw [zbv,ht,zbS,e3,if_neg (by decide),if_neg (by decide)] at hm
     obtain ⟨s3,q1,hm⟩:=zbE.1 hm
     cases hm
     exact (zcm q1).1
   have kcall:∀j {s':PS} {q:T},zcc l1 ts1 j s1=some (q,s')->s'.stuck=true:=by
    intro j s' q hm
    cases j with
    | zero=>simp [zcc] at hm
    | succ j =>
     rw [zcc] at hm
     obtain ⟨⟨a,s3⟩,q1,hm⟩:=zbE.1 hm
     have:=key j rfl q1
     cases hq:s'.stuck
     ·have:=((zbp l1 ts1 j).callFrom hm).1 hq
      simp_all
     ·rfl
   have kchain:∀j {p:Part} {g:List Int} {s':PS} {q:T},(∀j {s':PS} {q:T},zbc l1 ts1 j p s1=some (q,s')->s'.stuck=true)->zbf l1 ts1 j p g s1=some (q,s')->s'.stuck=true:=by
    intro j p g s' q hp hm
    cases j with
    | zero=>simp [zbf] at hm
    | succ j =>
     rw [zbf] at hm
     obtain ⟨⟨a,s3⟩,q1,hm⟩:=zbE.1 hm
     have:=hp j q1
     cases hq:s'.stuck
     ·have:=((zbp l1 ts1 j).chainFrom hm).1 hq
      simp_all
     ·rfl
   have kpc:∀j {s':PS} {q:T},zbc l1 ts1 j .call s1=some (q,s')->s'.stuck=true:=by
    intro j s' q hm
    cases j with
    | zero=>simp [zbc] at hm
    | succ j=>rw [zbc] at hm; exact kcall j hm
   have kpt:∀j {s':PS} {q:T},zbc l1 ts1 j .term s1=some (q,s')->s'.stuck=true:=by
    intro j s' q hm
    cases j with
    | zero=>simp [zbc] at hm
    | succ j =>
     rw [zbc] at hm
     cases j with
     | zero=>simp [zci] at hm
     | succ j=>rw [zci] at hm; exact kchain j kpc hm
   cases n with
   | zero=>simp [cmpS] at h
   | succ n =>
    rw [cmpS] at h
    obtain ⟨⟨a,s3⟩,q1,h⟩:=zbE.1 h
    have k1:s3.stuck=true:=by
     cases n with
     | zero=>simp [sumS] at q1
     | succ n=>rw [sumS] at q1; exact kchain n kpt q1
    obtain ⟨⟨sg,s4⟩,q2,h⟩:=zbE.1 h
    simp only at h q2
    have k2:s4.stuck=true:=by
     cases hq:s4.stuck
     ·have:=(zak q2).1 hq
      simp_all
     ·rfl
    split at h
    ·cases h
     simp_all
    ·obtain ⟨⟨c,s5⟩,q3,h⟩:=zbE.1 h
     cases h
     have:=((zbp l1 ts1 n).sum q3).1 hs
     simp_all
 case lett =>
  intro s1 s2 s1' r S h hs hd
  simp only [letS,zbE,zsI,zpI,Prod.exists] at h
  obtain ⟨k,t1,h1,rc,t2,h2,bn,bat,t3,h3,c4,t4,h4,d,t5,h5,c6,t6,h6,x,t7,h7,t8,h8,rfl,rfl⟩:=h
  simp only [T.deep] at hd
  have g7:t7.stuck=false:=by rw [<-(zaz h8).1]; exact hs
  have m7:=M.expr h7
  have g6:=m7.1 g7
  have m6:=zai h6
  have g5:=m6.1 g6
  have m5:=M.expr h5
  have g4:=m5.1 g5
  have m4:=zai h4
  have g3:=m4.1 g4
  have m3:=zbm h3
  have g2:=m3.1 g3
  have m2:=zak h2
  have g1:=m2.1 g2
  obtain ⟨u1,e1,S1,p1⟩:=S.begin E h1 g1 (by decide) (by omega)
  have hb3:t2.next<N:=by
   unfold zct at h3
   obtain ⟨⟨c,s9⟩,q1,q2⟩:=zbE.1 h3
   obtain ⟨qa,qb,_,_⟩:=ze2 q1 (by split at q2 <;> cases q2; exact g3) (by decide)
   -- the state is one of those that lie in the row
   rcases Nat.lt_or_ge t2.next N with hlt | hge
   ·exact hlt
   ·exfalso
    have hle:t1.next<=N:=S1.le
    have hcase:t2.next=t1.next\/(t2.next=t1.next+1/\t1.next<N):=by
     rcases S1.toks E with ⟨hl,_⟩ | ⟨hN,t,u,e1,e2,e3,e4⟩
     ·rw [zao] at h2
      obtain ⟨tt,_,h2⟩:=zbE.1 h2
      split at h2
      ·obtain ⟨⟨c9,s9⟩,q9,h2⟩:=zbE.1 h2
       cases h2
       obtain ⟨_,_,rfl,_⟩:=ze2 q9 g2 (by decide)
       exact .inr ⟨rfl,hl⟩
      ·rw [zao] at h2
       cases h2
       exact .inl rfl
     ·rw [zao,e1,zbS,if_neg (by rw [e3]; decide),zao] at h2
      cases h2
      exact .inl rfl
    have hN:t2.next=N:=by omega
    obtain ⟨te,he,h0⟩:=E.eof
    have:tokS ts1 t2=some te:=by simp [tokS,g2,hN,he]
    rw [this] at qa
    cases qa
    rw [h0] at qb
    cases qb
  have hb1:t1.next<N:=S1.one E (by decide) h2 (.inr hb3)
  obtain ⟨u2,e2,S2,p2⟩:=S1.takeAny E (by simp) (.inr hb1) h2 g2
  obtain ⟨_,u3,e3,S3,p3⟩:=S2.binder E h3 g3
  obtain ⟨_,_,u4,e4,S4,p4⟩:=S3.take E h4 g4 (by decide)
  have d4:u4.depth=s2.depth+1:=by have:=S.dp; have:=S4.dp; omega
  obtain ⟨u5,e5,S5⟩:=ih.expr S4 h5 g5 (by omega)
  obtain ⟨_,_,u6,e6,S6,p6⟩:=S5.take E h6 g6 (by decide)
  have d6:u6.depth=s2.depth+1:=by have:=S6.dp; have:=S4.dp; have:=m5.2; omega
  obtain ⟨u7,e7,S7⟩:=ih.expr S6 h7 g7 (by omega)
  obtain ⟨u8,e8,S8,_⟩:=S7.end h8
  refine ⟨u8,?_,S8⟩
  simp only [letS,e1,e2,e3,e4,e5,e6,e7,e8,zbS,T.zsg]
  rfl
 case fn =>
  intro s1 s2 s1' r S h hs hd
  simp only [funS,zbE,zsI,zpI,Prod.exists] at h
  obtain ⟨k,t1,h1,bn,bat,t3,h3,c4,t4,h4,d,t5,h5,t8,h8,rfl,rfl⟩:=h
  simp only [T.deep] at hd
  have g5:t5.stuck=false:=by rw [<-(zaz h8).1]; exact hs
  have m5:=M.expr h5
  have g4:=m5.1 g5
  have m4:=zai h4
  have g3:=m4.1 g4
  have m3:=zbm h3
  have g1:=m3.1 g3
  obtain ⟨u1,e1,S1,p1⟩:=S.begin E h1 g1 (by decide) (by omega)
  obtain ⟨_,u3,e3,S3,p3⟩:=S1.binder E h3 g3
  obtain ⟨_,_,u4,e4,S4,p4⟩:=S3.take E h4 g4 (by decide)
  have d4:u4.depth=s2.depth+1:=by have:=S.dp; have:=S4.dp; omega
  obtain ⟨u5,e5,S5⟩:=ih.expr S4 h5 g5 (by omega)
  obtain ⟨u8,e8,S8,_⟩:=S5.end h8
  refine ⟨u8,?_,S8⟩
  simp only [funS,e1,e3,e4,e5,e8,zbS,T.zsg]
  rfl
 case cond =>
  intro s1 s2 s1' r S h hs hd
  simp only [zco,zbE,zsI,zpI,Prod.exists] at h
  obtain ⟨k,t1,h1,x,t2,h2,c3,t3,h3,y,t4,h4,c5,t5,h5,z,t6,h6,t8,h8,rfl,rfl⟩:=h
  simp only [T.deep] at hd
  have g6:t6.stuck=false:=by rw [<-(zaz h8).1]; exact hs
  have m6:=M.expr h6
  have g5:=m6.1 g6
  have m5:=zai h5
  have g4:=m5.1 g5
  have m4:=M.expr h4
  have g3:=m4.1 g4
  have m3:=zai h3
  have g2:=m3.1 g3
  have m2:=M.expr h2
  have g1:=m2.1 g2
  obtain ⟨u1,e1,S1,p1⟩:=S.begin E h1 g1 (by decide) (by omega)
  have d1:u1.depth=s2.depth+1:=by have:=S.dp; have:=S1.dp; omega
  obtain ⟨u2,e2,S2⟩:=ih.expr S1 h2 g2 (by omega)
  obtain ⟨_,_,u3,e3,S3,p3⟩:=S2.take E h3 g3 (by decide)
  have d3:u3.depth=s2.depth+1:=by have:=S3.dp; have:=S1.dp; have:=m2.2; omega
  obtain ⟨u4,e4,S4⟩:=ih.expr S3 h4 g4 (by omega)
  obtain ⟨_,_,u5,e5,S5,p5⟩:=S4.take E h5 g5 (by decide)
  have d5:u5.depth=s2.depth+1:=by have:=S5.dp; have:=S3.dp; have:=m4.2; omega
  obtain ⟨u6,e6,S6⟩:=ih.expr S5 h6 g6 (by omega)
  obtain ⟨u8,e8,S8,_⟩:=S6.end h8
  refine ⟨u8,?_,S8⟩
  simp only [zco,e1,e2,e3,e4,e5,e6,e8,zbS,T.zsg]
  rfl
 case cmp =>
  intro s1 s2 s1' r S h hs hd
  simp only [cmpS,zbE,Prod.exists] at h
  obtain ⟨x,t1,h1,sg,t2,h2,h⟩:=h
  split at h
  ·rename_i q
   cases h
   have g1:=(zak h2).1 hs
   obtain ⟨u1,e1,S1⟩:=ih.sum S h1 g1 hd
   obtain ⟨u2,e2,S2,_⟩:=S1.takeAny E (by simp) (.inl (by decide)) h2 hs
   refine ⟨u2,?_,S2⟩
   simp only [cmpS,e1,e2,zbS,q,if_true]
  ·rename_i q
   simp only [zbE,zsI,zpI,Prod.exists] at h
   obtain ⟨y,t3,h3,rfl,rfl⟩:=h
   simp only [T.deep] at hd
   have m3:=M.sum h3
   have g2:=m3.1 hs
   have m2:=zak h2
   have g1:=m2.1 g2
   have m1:=M.sum h1
   obtain ⟨u1,e1,S1⟩:=ih.sum S h1 g1 (by omega)
   obtain ⟨u2,e2,S2,_⟩:=S1.takeAny E (by simp) (.inl (by decide)) h2 g2
   have d2:u2.depth=s2.depth:=by have:=S2.dp; have:=S.dp; have:=m1.2; have:=m2.2; omega
   obtain ⟨u3,e3,S3⟩:=ih.sum S2 h3 hs (by omega)
   refine ⟨u3,?_,S3⟩
   simp only [cmpS,e1,e2,e3,zbS,if_neg q,T.zsg,T.yc1]
   rfl
 case sum =>
  intro s1 s2 s1' r S h hs hd
  rw [sumS] at h ⊢
  exact ih.chain (by simp) (by decide) S h hs hd
 case term =>
  intro s1 s2 s1' r S h hs hd
  rw [zci] at h ⊢
  exact ih.chain (by simp) (by decide) S h hs hd
 case part =>
  intro p s1 s2 s1' r S h hs hd
  cases p with
  | term=>rw [zbc] at h ⊢; exact ih.term S h hs hd
  | call=>rw [zbc] at h ⊢; exact ih.call S h hs hd
 case chain =>
  intro p g s1 s2 s1' r hg0 hg S h hs hd
  simp only [zbf,zbE,Prod.exists] at h
  obtain ⟨a,t1,h1,h2⟩:=h
  have g1:=(M.chainFrom h2).1 hs
  have:=zhm l1 ts1 n h2
  obtain ⟨u1,e1,S1⟩:=ih.part S h1 g1 (by omega)
  have d1:u1.depth=s2.depth:=S.dp2 S1 (M.part h1).2
  obtain ⟨u2,e2,S2⟩:=ih.chainFrom hg0 hg S1 h2 hs (by omega)
  refine ⟨u2,?_,S2⟩
  simp only [zbf,e1,e2,zbS]
 case chainFrom =>
  intro p g a s1 s2 s1' r hg0 hg S h hs hd
  simp only [zan,zbE,Prod.exists] at h
  obtain ⟨sg,t1,h1,h⟩:=h
  split at h
  ·rename_i q
   cases h
   obtain ⟨u1,e1,S1,_⟩:=S.takeAny E hg0 (.inl hg) h1 hs
   refine ⟨u1,?_,S1⟩
   simp only [zan,e1,zbS,q,if_true]
  ·rename_i q
   simp only [zbE,Prod.exists] at h
   obtain ⟨c,t2,h2,h3⟩:=h
   have hdeep:=zpj l1 ts1 h3
   have g2:=(M.chainFrom h3).1 hs
   have m2:=M.part h2
   have g1:=m2.1 g2
   have m1:=zak h1
   obtain ⟨u1,e1,S1,_⟩:=S.takeAny E hg0 (.inl hg) h1 g1
   have d1:u1.depth=s2.depth:=S.dp2 S1 m1.2
   obtain ⟨u2,e2,S2⟩:=ih.part S1 h2 g2 (by omega)
   have d2:u2.depth=s2.depth:=by rw [S1.dp2 S2 m2.2,d1]
   obtain ⟨u3,e3,S3⟩:=ih.chainFrom hg0 hg S2 h3 hs (by omega)
   refine ⟨u3,?_,S3⟩
   simp only [zan,e1,e2,zbS,if_neg q,T.zsg,T.yc1]
   exact e3
 case call =>
  intro s1 s2 s1' r S h hs hd
  simp only [zcc,zbE,Prod.exists] at h
  obtain ⟨a,t1,h1,h2⟩:=h
  have g1:=(M.callFrom h2).1 hs
  have:=zil l1 ts1 n h2
  obtain ⟨u1,e1,S1⟩:=ih.atom S h1 g1 (by omega)
  have d1:u1.depth=s2.depth:=S.dp2 S1 (M.atom h1).2
  obtain ⟨u2,e2,S2⟩:=ih.callFrom S1 h2 hs (by omega)
  refine ⟨u2,?_,S2⟩
  simp only [zcc,e1,e2,zbS]
 case callFrom =>
  intro a s1 s2 s1' r S h hs hd
  simp only [zar,zbE] at h
  obtain ⟨t,ht,h⟩:=h
  rcases S.toks E with ⟨hl,t',e1,e2,e3,e4⟩ | ⟨hN,t',u,e1,e2,e3,e4⟩
  ·rw [ht] at e1
   cases e1
   have hsort:(t.re m).sort=t.sort:=rfl
   split at h
   ·rename_i q
    simp only [zbE,Prod.exists] at h
    obtain ⟨c,t2,h2,h3⟩:=h
    have hdeep:=zil l1 ts1 n h3
    simp only [T.deep] at hdeep
    have g2:=(M.callFrom h3).1 hs
    have m2:=M.atom h2
    obtain ⟨u2,e2',S2⟩:=ih.atom S h2 g2 (by omega)
    have d2:u2.depth=s2.depth:=S.dp2 S2 m2.2
    obtain ⟨u3,e3',S3⟩:=ih.callFrom S2 h3 hs (by omega)
    refine ⟨u3,?_,S3⟩
    simp only [zar,e2,zbS,hsort,q,if_true,e2',T.zsg,T.yc1]
    exact e3'
   ·rename_i q
    cases h
    refine ⟨s2,?_,S⟩
    simp only [zar,e2,zbS,hsort,if_neg q]
  ·rw [ht] at e1
   cases e1
   rw [e3,if_neg (by decide)] at h
   cases h
   refine ⟨s2,?_,S⟩
   have q:¬zal u.sort=true:=by
    simp [zbt] at e4
    simp [zal]
    omega
   simp only [zar,e2,zbS,if_neg q]
 case atom =>
  intro s1 s2 s1' r S h hs hd
  simp only [zbv,zbE] at h
  obtain ⟨t,ht,h⟩:=h
  rcases S.toks E with ⟨hl,t',e1,e2,e3,e4⟩ | ⟨hN,t',u,e1,e2,e3,e4⟩
  ·rw [ht] at e1
   cases e1
   have hsort:(t.re m).sort=t.sort:=rfl
   split at h
   ·rename_i q
    obtain ⟨u2,e2',S2⟩:=ih.bracket S h hs hd
    refine ⟨u2,?_,S2⟩
    simp only [zbv,e2,zbS,hsort,q,if_true,e2']
   ·rename_i q
    split at h
    ·rename_i q2
     simp only [zbE,zsI,zpI,Prod.exists] at h
     obtain ⟨c,t2,h2,x,h3,rfl,rfl⟩:=h
     obtain ⟨_,_,u2,e2',S2,_⟩:=S.take E h2 hs e3
     obtain ⟨e3',_⟩:=yc2 e4 h3
     refine ⟨u2,?_,S2⟩
     simp only [zbv,e2,zbS,hsort,if_neg q,q2,if_true,e2',e3']
    ·simp only [zbE,zsI,zpI] at h
     obtain ⟨_,h2,_,rfl⟩:=h
     rw [(zcm h2).1] at hs
     cases hs
  ·rw [ht] at e1
   cases e1
   rw [e3,if_neg (by decide),if_neg (by decide)] at h
   simp only [zbE,zsI,zpI] at h
   obtain ⟨_,h2,_,rfl⟩:=h
   rw [(zcm h2).1] at hs
   cases hs
 case bracket =>
  intro s1 s2 s1' r S h hs hd
  simp only [za0,zbE,Prod.exists] at h
  obtain ⟨k,t1,h1,x,t2,h2,sg,t3,h3,h⟩:=h
  split at h
  ·rename_i q
   simp only [zbE,zsI,zpI,Prod.exists] at h
   obtain ⟨y,t4,h4,c5,t5,h5,t6,h6,rfl,rfl⟩:=h
   simp only [T.deep] at hd
   have g5:t5.stuck=false:=by rw [<-(zaz h6).1]; exact hs
   have m5:=zai h5
   have g4:=m5.1 g5
   have m4:=M.expr h4
   have g3:=m4.1 g4
   have m3:=zak h3
   have g2:=m3.1 g3
   have m2:=M.expr h2
   have g1:=m2.1 g2
   obtain ⟨u1,e1,S1,p1⟩:=S.begin E h1 g1 (by decide) (by omega)
   have d1:u1.depth=s2.depth+1:=by have:=S.dp; have:=S1.dp; omega
   obtain ⟨u2,e2,S2⟩:=ih.expr S1 h2 g2 (by omega)
   have hl2:t2.next<N:=S2.one E (by decide) h3 (.inl (by rw [q]; decide))
   obtain ⟨u3,e3,S3,p3⟩:=S2.takeAny E (by simp) (.inr hl2) h3 g3
   have d3:u3.depth=s2.depth+1:=by have:=S3.dp; have:=S1.dp; have:=m2.2; omega
   obtain ⟨u4,e4,S4⟩:=ih.expr S3 h4 g4 (by omega)
   obtain ⟨_,_,u5,e5,S5,p5⟩:=S4.take E h5 g5 (by decide)
   obtain ⟨u6,e6,S6,_⟩:=S5.end h6
   refine ⟨u6,?_,S6⟩
   simp only [za0,e1,e2,e3,e4,e5,e6,zbS,q,if_true]
   rfl
  ·rename_i q
   simp only [zbE,zsI,zpI,Prod.exists] at h
   obtain ⟨c5,t5,h5,t6,h6,rfl,rfl⟩:=h
   simp only [T.deep] at hd
   have g5:t5.stuck=false:=by rw [<-(zaz h6).1]; exact hs
   have m5:=zai h5
   have g3:=m5.1 g5
   have m3:=zak h3
   have g2:=m3.1 g3
   have m2:=M.expr h2
   have g1:=m2.1 g2
   obtain ⟨u1,e1,S1,p1⟩:=S.begin E h1 g1 (by decide) (by omega)
   have d1:u1.depth=s2.depth+1:=by have:=S.dp; have:=S1.dp; omega
   obtain ⟨u2,e2,S2⟩:=ih.expr S1 h2 g2 (by omega)
   have hk:sg≠0\/t3.next<N:=by
    rcases S2.toks E with ⟨hl,tt,q1,q2,q3,q4⟩ | ⟨hN,t,u,q1,q2,q3,q4⟩
    ·rw [zao,q1,zbS] at h3
     split at h3
     ·obtain ⟨⟨c9,s9⟩,q9,h3⟩:=zbE.1 h3
      cases h3
      obtain ⟨w1,w2,_,_⟩:=ze2 q9 g3 (by decide)
      exact .inl (by simp [w2])
     ·rw [zao] at h3
      cases h3
      exact .inr hl
    ·exfalso
     rw [zao,q1,zbS,if_neg (by rw [q3]; decide),zao] at h3
     cases h3
     obtain ⟨w1,w2,_,_⟩:=ze2 h5 g5 (by decide)
     rw [q1] at w1
     cases w1
     rw [q3] at w2
     cases w2
   have hl2:t2.next<N:=S2.one E (by decide) h3 hk
   obtain ⟨u3,e3,S3,p3⟩:=S2.takeAny E (by simp) (.inr hl2) h3 g3
   obtain ⟨_,_,u5,e5,S5,p5⟩:=S3.take E h5 g5 (by decide)
   obtain ⟨u6,e6,S6,_⟩:=S5.end h6
   refine ⟨u6,?_,S6⟩
   simp only [za0,e1,e2,e3,e5,e6,zbS,if_neg q]
   rfl
theorem zy0 (E:Emb l1 l2 ts1 ts2 o m N):∀n,SAll l1 l2 ts1 ts2 o N dd m n
 | 0=>by constructor <;> (intros; rename_i h _ _; simp [za6,letS,funS,zco,cmpS,sumS,zci,zbc,zbf,zan,zcc,zar,zbv,za0] at h)
 | n+1=>yc3 E (zy0 E n)
end Go.Proofs.YtckhafpejefbbaaGreatDoor.Tw 
namespace Go.Proofs.YtckhafpejefbbaaGreatDoor.Tw
open Go
theorem Emb.yfp {l1 l2:List UInt8} {m:Mv} {body:List Tok} (h:∀t∈body,t.sort≠0/\zwb l1 l2 m t) {e1 e2:Tok} (h1:e1.sort=0) (h2:zbt e2.sort=true) (pre post:List Tok) (hf:body.length+pre.length<=300) :
  Emb l1 l2 (body ++ [e1]) (pre++(body.map (Tok.re m)++e2::post)) pre.length m body.length:=by
 refine ⟨fun i hi => ?_,⟨e1,by simp,h1⟩,⟨e2,?_,h2⟩,hf⟩
 ·have hb:body[i]? = some body[i]:=List.getElem?_eq_getElem hi
  refine ⟨body[i],by rw [List.getElem?_append_left hi,hb],?_,(h _ (List.getElem_mem hi)).1,(h _ (List.getElem_mem hi)).2⟩
  rw [List.getElem?_append_right (by omega),Nat.add_sub_cancel,List.getElem?_append_left (by simpa using hi),List.getElem?_map,hb]
  rfl
 ·rw [List.getElem?_append_right (by omega),Nat.add_sub_cancel,List.getElem?_append_right (by simp)]
  simp
theorem yc4 {l1 l2:List UInt8} {m:Mv} {body:List Tok} (h:∀t∈body,t.sort≠0/\zwb l1 l2 m t) {e1 e2:Tok} (h1:e1.sort=0) (h2:e2.sort=0) (hf:body.length<=300) {fuel:Nat} {t:T} (hp:zb9 l1 (body ++ [e1]) fuel=some (.ok t)) (hd:t.deep<=40) :
  zb9 l2 (body.map (Tok.re m) ++ [e2]) fuel=some (.ok (t.re m)):=by
 have E:Emb l1 l2 (body ++ [e1]) (body.map (Tok.re m) ++ [e2]) 0 m body.length:=by
  have:=Emb.yfp h h1 (e2:=e2) (by rw [h2]; decide) [] [] (by simpa using hf)
  simpa using this
 unfold zb9 at hp
 obtain ⟨⟨x,s1⟩,hx,hp⟩:=zbE.1 hp
 obtain ⟨⟨k,s2⟩,hk,hp⟩:=zbE.1 hp
 simp only [zsI] at hp hk
 have hs2:s2.stuck=false:=by
  cases hq:s2.stuck
  ·rfl
  ·rw [hq] at hp; simp at hp
 rw [hs2] at hp
 simp only [Bool.false_eq_true,if_false,Except.ok.injEq] at hp
 subst hp
 have hs1:=(zai hk).1 hs2
 have S0:Sim 0 0 body.length ⟨0,0,false,0⟩ ⟨0,0,false,0⟩:=⟨rfl,rfl,rfl,rfl,Nat.zero_le _⟩
 obtain ⟨s3,e3,S3⟩:=(zy0 E fuel).expr S0 hx hs1 (by simpa using hd)
 have hN:s1.next=body.length:=by
  rcases S3.toks E with ⟨_,tt,q1,_,q3,_⟩ | ⟨hN,_⟩
  ·exfalso
   unfold zbe at hk
   rw [q1,zbS] at hk
   rw [if_neg q3] at hk
   obtain ⟨s9,q9,hk⟩:=zbE.1 hk
   cases hk
   rw [(zcm q9).1] at hs2
   cases hs2
  ·exact hN
 have ht:tokS (body.map (Tok.re m) ++ [e2]) s3=some e2:=by
  unfold tokS
  rw [S3.k2,S3.nx,hN]
  simp
 unfold zb9
 rw [e3,zbS]
 have hk3:zbe (body.map (Tok.re m) ++ [e2]) 0 s3=some (e2,s3):=by
  unfold zbe
  rw [ht,zbS,if_pos h2,if_pos rfl]
 rw [hk3,zbS]
 simp [S3.k2]
def T.boundS:T->List (List UInt8)->Bool
 | .name _ _ x,e=>e.contains x
 | .int ..,_=>true
 | .truth ..,_=>true
 | .side ..,_=>true
 | .bracket _ _ i,e=>i.boundS e
 | .pair _ _ l r,e=>l.boundS e&&r.boundS e
 | .call _ _ l r,e=>l.boundS e&&r.boundS e
 | .binary _ _ _ l r,e=>l.boundS e&&r.boundS e
 | .cond _ _ c t f,e=>c.boundS e&&(t.boundS e&&f.boundS e)
 | .fn _ _ bn _ b,e=>b.boundS (bn::e)
 | .lett _ _ rc bn _ d b,e=>d.boundS (if rc then bn::e else e)&&b.boundS (bn::e)
open Go
theorem ze3 {ts:List Tok} {s:Int} {st st':PS} {k:Nat} (h:zce ts s st=some (k,st')) (hs:st'.stuck=false):st.depth≠40/\st'.depth=st.depth+1/\st.stuck=false:=by
 have m:=zfc h
 refine ⟨fun e => ?_,m.2,m.1 hs⟩
 unfold zce at h
 rw [if_pos e] at h
 obtain ⟨s1,h1,h⟩:=zbE.1 h
 split at h
 ·obtain ⟨⟨t1,s2⟩,h2,h⟩:=zbE.1 h
  cases h
  have:=(zai h2).1 hs
  simp only at this
  rw [(zcm h1).1] at this
  cases this
 ·cases h
theorem ya6 {l:List UInt8} {t:Tok} {x:T} (h:zeq l t=some x):x.deep=0:=by
 unfold zeq at h
 split at h
 ·split at h
  ·obtain ⟨v,_,h⟩:=zbE.1 h
   cases h; rfl
  ·cases h
 ·split at h
  ·cases h; rfl
  ·split at h
   ·cases h; rfl
   ·split at h
    ·cases h; rfl
    ·cases h
structure DAll (l:List UInt8) (ts:List Tok) (n:Nat):Prop where
 expr:∀ {st st' t},za6 l ts n st=some (t,st')->st'.stuck=false->st.depth<=40->st.depth+t.deep<=40
 lett:∀ {st st' t},letS l ts n st=some (t,st')->st'.stuck=false->st.depth<=40->st.depth+t.deep<=40
 fn:∀ {st st' t},funS l ts n st=some (t,st')->st'.stuck=false->st.depth<=40->st.depth+t.deep<=40
 cond:∀ {st st' t},zco l ts n st=some (t,st')->st'.stuck=false->st.depth<=40->st.depth+t.deep<=40
 cmp:∀ {st st' t},cmpS l ts n st=some (t,st')->st'.stuck=false->st.depth<=40->st.depth+t.deep<=40
 sum:∀ {st st' t},sumS l ts n st=some (t,st')->st'.stuck=false->st.depth<=40->st.depth+t.deep<=40
 term:∀ {st st' t},zci l ts n st=some (t,st')->st'.stuck=false->st.depth<=40->st.depth+t.deep<=40
 part:∀ {p st st' t},zbc l ts n p st=some (t,st')->st'.stuck=false->st.depth<=40->st.depth+t.deep<=40
 chain:∀ {p g st st' t},zbf l ts n p g st=some (t,st')->st'.stuck=false->st.depth<=40->st.depth+t.deep<=40
 chainFrom:∀ {p g a st st' t},zan l ts n p g a st=some (t,st')->st'.stuck=false->st.depth<=40->st.depth+a.deep<=40->st.depth+t.deep<=40
 call:∀ {st st' t},zcc l ts n st=some (t,st')->st'.stuck=false->st.depth<=40->st.depth+t.deep<=40
 callFrom:∀ {a st st' t},zar l ts n a st=some (t,st')->st'.stuck=false->st.depth<=40->st.depth+a.deep<=40->st.depth+t.deep<=40
 atom:∀ {st st' t},zbv l ts n st=some (t,st')->st'.stuck=false->st.depth<=40->st.depth+t.deep<=40
 bracket:∀ {st st' t},za0 l ts n st=some (t,st')->st'.stuck=false->st.depth<=40->st.depth+t.deep<=40
theorem zuy (l:List UInt8) (ts:List Tok):∀n,DAll l ts n
 | 0=>by constructor <;> intros <;> first | (rename_i h _ _; simp [za6,letS,funS,zco,cmpS,sumS,zci,zbc,zbf,zcc,zbv,za0] at h) | (rename_i h _ _ _; simp [zan,zar] at h)
 | n+1=>by
  have ih:=zuy l ts n
  have hM:=zbp l ts n
  constructor
  ·intro st st' t h hs hd
   rw [za6] at h
   obtain ⟨k,_,h⟩:=zbE.1 h
   split at h
   ·exact ih.lett h hs hd
   ·split at h
    ·exact ih.fn h hs hd
    ·split at h
     ·exact ih.cond h hs hd
     ·exact ih.cmp h hs hd
  ·intro st st' t h hs hd
   rw [letS] at h
   obtain ⟨⟨b,s1⟩,h1,h⟩:=zbE.1 h
   obtain ⟨⟨rc,s2⟩,h2,h⟩:=zbE.1 h
   obtain ⟨⟨bd,s3⟩,h3,h⟩:=zbE.1 h
   obtain ⟨⟨e,s4⟩,h4,h⟩:=zbE.1 h
   obtain ⟨⟨d,s5⟩,h5,h⟩:=zbE.1 h
   obtain ⟨⟨i,s6⟩,h6,h⟩:=zbE.1 h
   obtain ⟨⟨x,s7⟩,h7,h⟩:=zbE.1 h
   obtain ⟨s8,h8,h⟩:=zbE.1 h
   simp only [zsI,zpI] at h h2 h3 h4 h5 h6 h7 h8
   obtain ⟨rfl,rfl⟩:=h
   have k7:s7.stuck=false:=by rw [<-(zaz h8).1]; exact hs
   have k6:=(hM.expr h7).1 k7
   have k5:=(zai h6).1 k6
   have k4:=(hM.expr h5).1 k5
   have k3:=(zai h4).1 k4
   have k2:=(zbm h3).1 k3
   have k1:=(zak h2).1 k2
   obtain ⟨b1,b2,_⟩:=ze3 h1 k1
   have e2:=(zak h2).2
   have e3:=(zbm h3).2
   have e4:=(zai h4).2
   have e5:=(hM.expr h5).2
   have e6:=(zai h6).2
   have D1:=ih.expr h5 k5 (by omega)
   have D2:=ih.expr h7 k7 (by omega)
   simp only [T.deep]
   omega
  ·intro st st' t h hs hd
   rw [funS] at h
   obtain ⟨⟨b,s1⟩,h1,h⟩:=zbE.1 h
   obtain ⟨⟨bd,s3⟩,h3,h⟩:=zbE.1 h
   obtain ⟨⟨e,s4⟩,h4,h⟩:=zbE.1 h
   obtain ⟨⟨d,s5⟩,h5,h⟩:=zbE.1 h
   obtain ⟨s8,h8,h⟩:=zbE.1 h
   simp only [zsI,zpI] at h h3 h4 h5 h8
   obtain ⟨rfl,rfl⟩:=h
   have k5:s5.stuck=false:=by rw [<-(zaz h8).1]; exact hs
   have k4:=(hM.expr h5).1 k5
   have k3:=(zai h4).1 k4
   have k1:=(zbm h3).1 k3
   obtain ⟨b1,b2,_⟩:=ze3 h1 k1
   have e3:=(zbm h3).2
   have e4:=(zai h4).2
   have D1:=ih.expr h5 k5 (by omega)
   simp only [T.deep]
   omega
  ·intro st st' t h hs hd
   rw [zco] at h
   obtain ⟨⟨b,s1⟩,h1,h⟩:=zbE.1 h
   obtain ⟨⟨c,s2⟩,h2,h⟩:=zbE.1 h
   obtain ⟨⟨e,s3⟩,h3,h⟩:=zbE.1 h
   obtain ⟨⟨d,s4⟩,h4,h⟩:=zbE.1 h
   obtain ⟨⟨i,s5⟩,h5,h⟩:=zbE.1 h
   obtain ⟨⟨x,s6⟩,h6,h⟩:=zbE.1 h
   obtain ⟨s8,h8,h⟩:=zbE.1 h
   simp only [zsI,zpI] at h h2 h3 h4 h5 h6 h8
   obtain ⟨rfl,rfl⟩:=h
   have k6:s6.stuck=false:=by rw [<-(zaz h8).1]; exact hs
   have k5:=(hM.expr h6).1 k6
   have k4:=(zai h5).1 k5
   have k3:=(hM.expr h4).1 k4
   have k2:=(zai h3).1 k3
   have k1:=(hM.expr h2).1 k2
   obtain ⟨b1,b2,_⟩:=ze3 h1 k1
   have e2:=(hM.expr h2).2
   have e3:=(zai h3).2
   have e4:=(hM.expr h4).2
   have e5:=(zai h5).2
   have D1:=ih.expr h2 k2 (by omega)
   have D2:=ih.expr h4 k4 (by omega)
   have D3:=ih.expr h6 k6 (by omega)
   simp only [T.deep]
   omega
  ·intro st st' t h hs hd
   rw [cmpS] at h
   obtain ⟨⟨a,s1⟩,h1,h⟩:=zbE.1 h
   obtain ⟨⟨k,s2⟩,h2,h⟩:=zbE.1 h
   simp only at h2 h
   split at h
   ·cases h
    exact ih.sum h1 ((zak h2).1 hs) hd
   ·obtain ⟨⟨b,s3⟩,h3,h⟩:=zbE.1 h
    cases h
    have k2:=(hM.sum h3).1 hs
    have k1:=(zak h2).1 k2
    have e1:=(hM.sum h1).2
    have e2:=(zak h2).2
    have D1:=ih.sum h1 k1 hd
    have D2:=ih.sum h3 hs (by omega)
    simp only [T.deep]
    omega
  ·intro st st' t h hs hd
   rw [sumS] at h
   exact ih.chain h hs hd
  ·intro st st' t h hs hd
   rw [zci] at h
   exact ih.chain h hs hd
  ·intro p st st' t h hs hd
   cases p with
   | term=>rw [zbc] at h; exact ih.term h hs hd
   | call=>rw [zbc] at h; exact ih.call h hs hd
  ·intro p g st st' t h hs hd
   rw [zbf] at h
   obtain ⟨⟨a,s1⟩,h1,h⟩:=zbE.1 h
   have k1:=(hM.chainFrom h).1 hs
   have e1:=(hM.part h1).2
   have D1:=ih.part h1 k1 hd
   have D2:=ih.chainFrom h hs (by simp only; omega) (by simp only; omega)
   simp only at D2
   omega
  ·intro p g a st st' t h hs hd ha
   rw [zan] at h
   obtain ⟨⟨k,s1⟩,h1,h⟩:=zbE.1 h
   simp only at h
   split at h
   ·cases h; exact ha
   ·obtain ⟨⟨b,s2⟩,h2,h⟩:=zbE.1 h
    have k2:=(hM.chainFrom h).1 hs
    have e1:=(zak h1).2
    have e2:=(hM.part h2).2
    have D1:=ih.part h2 k2 (by omega)
    have D2:=ih.chainFrom h hs (by simp only; omega) (by simp only [T.deep]; omega)
    simp only at D2
    omega
  ·intro st st' t h hs hd
   rw [zcc] at h
   obtain ⟨⟨a,s1⟩,h1,h⟩:=zbE.1 h
   have k1:=(hM.callFrom h).1 hs
   have e1:=(hM.atom h1).2
   have D1:=ih.atom h1 k1 hd
   have D2:=ih.callFrom h hs (by simp only; omega) (by simp only; omega)
   simp only at D2
   omega
  ·intro a st st' t h hs hd ha
   rw [zar] at h
   obtain ⟨k,_,h⟩:=zbE.1 h
   split at h
   ·obtain ⟨⟨b,s2⟩,h2,h⟩:=zbE.1 h
    have k2:=(hM.callFrom h).1 hs
    have e2:=(hM.atom h2).2
    have D1:=ih.atom h2 k2 hd
    have D2:=ih.callFrom h hs (by simp only; omega) (by simp only [T.deep]; omega)
    simp only at D2
    omega
   ·cases h; exact ha
  ·intro st st' t h hs hd
   rw [zbv] at h
   obtain ⟨k,_,h⟩:=zbE.1 h
   split at h
   ·exact ih.bracket h hs hd
   ·split at h
    ·obtain ⟨⟨r,s1⟩,h1,h⟩:=zbE.1 h
     obtain ⟨x,h2,h⟩:=zbE.1 h
     cases h
     rw [ya6 h2]
     exact hd
    ·obtain ⟨s1,h1,h⟩:=zbE.1 h
     cases h
     exact hd
  ·intro st st' t h hs hd
   rw [za0] at h
   obtain ⟨⟨b,s1⟩,h1,h⟩:=zbE.1 h
   obtain ⟨⟨x,s2⟩,h2,h⟩:=zbE.1 h
   obtain ⟨⟨c,s3⟩,h3,h⟩:=zbE.1 h
   simp only at h h2 h3
   have e2:=(hM.expr h2).2
   have e3:=(zak h3).2
   split at h
   ·obtain ⟨⟨y,s4⟩,h4,h⟩:=zbE.1 h
    obtain ⟨⟨r,s5⟩,h5,h⟩:=zbE.1 h
    obtain ⟨s8,h8,h⟩:=zbE.1 h
    simp only [zsI,zpI] at h h4 h5 h8
    obtain ⟨rfl,rfl⟩:=h
    have k5:s5.stuck=false:=by rw [<-(zaz h8).1]; exact hs
    have k4:=(zai h5).1 k5
    have k3:=(hM.expr h4).1 k4
    have k2:=(zak h3).1 k3
    have k1:=(hM.expr h2).1 k2
    obtain ⟨b1,b2,_⟩:=ze3 h1 k1
    have D1:=ih.expr h2 k2 (by omega)
    have D2:=ih.expr h4 k4 (by omega)
    simp only [T.deep]
    omega
   ·obtain ⟨⟨r,s5⟩,h5,h⟩:=zbE.1 h
    obtain ⟨s8,h8,h⟩:=zbE.1 h
    simp only [zsI,zpI] at h h5 h8
    obtain ⟨rfl,rfl⟩:=h
    have k5:s5.stuck=false:=by rw [<-(zaz h8).1]; exact hs
    have k3:=(zai h5).1 k5
    have k2:=(zak h3).1 k3
    have k1:=(hM.expr h2).1 k2
    obtain ⟨b1,b2,_⟩:=ze3 h1 k1
    have D1:=ih.expr h2 k2 (by omega)
    simp only [T.deep]
    omega
theorem zxp {l:List UInt8} {ts:List Tok} {n:Nat} {t:T} (h:zb9 l ts n=some (.ok t)):t.deep<=40:=by
 unfold zb9 at h
 obtain ⟨⟨x,s1⟩,hx,h⟩:=zbE.1 h
 obtain ⟨⟨k,s2⟩,hk,h⟩:=zbE.1 h
 simp only [zsI] at h hk
 have hs2:s2.stuck=false:=by
  cases hq:s2.stuck
  ·rfl
  ·rw [hq] at h; simp at h
 rw [hs2] at h
 simp only [Bool.false_eq_true,if_false,Except.ok.injEq] at h
 subst h
 have:=(zuy l ts n).expr hx ((zai hk).1 hs2) (by simp)
 simpa using this
open Go
theorem zbz:∀(t:T) (env:List (List UInt8)) (we:WEn),t.freeS env=none->(∀x,env.contains x=true->∃k,we.look x=some k)->∃w,zaj t we=some w
 | .name fr to x,env,we,h,hE=>by
  simp only [T.freeS] at h
  split at h
  ·rename_i hx
   obtain ⟨k,hk⟩:=hE x hx
   exact ⟨_,by simp only [zaj]; rw [hk]; rfl⟩
  ·cases h
 | .int ..,_,_,_,_=>⟨_,rfl⟩
 | .truth ..,_,_,_,_=>⟨_,rfl⟩
 | .side ..,_,_,_,_=>⟨_,rfl⟩
 | .bracket _ _ i,env,we,h,hE=>by
  obtain ⟨w,hw⟩:=zbz i env we h hE
  exact ⟨_,by simp only [zaj]; rw [hw]; rfl⟩
 | .pair _ _ l r,env,we,h,hE=>by
  simp only [T.freeS,Option.or_eq_none_iff] at h
  obtain ⟨w1,h1⟩:=zbz l env we h.1 hE
  obtain ⟨w2,h2⟩:=zbz r env we h.2 hE
  exact ⟨_,by simp only [zaj]; rw [h1,h2]; rfl⟩
 | .call _ _ l r,env,we,h,hE=>by
  simp only [T.freeS,Option.or_eq_none_iff] at h
  obtain ⟨w1,h1⟩:=zbz l env we h.1 hE
  obtain ⟨w2,h2⟩:=zbz r env we h.2 hE
  exact ⟨_,by simp only [zaj]; rw [h1,h2]; rfl⟩
 | .binary _ _ _ l r,env,we,h,hE=>by
  simp only [T.freeS,Option.or_eq_none_iff] at h
  obtain ⟨w1,h1⟩:=zbz l env we h.1 hE
  obtain ⟨w2,h2⟩:=zbz r env we h.2 hE
  exact ⟨_,by simp only [zaj]; rw [h1,h2]; rfl⟩
 | .cond _ _ c t f,env,we,h,hE=>by
  simp only [T.freeS,Option.or_eq_none_iff] at h
  obtain ⟨w1,h1⟩:=zbz c env we h.1.1 hE
  obtain ⟨w2,h2⟩:=zbz t env we h.1.2 hE
  obtain ⟨w3,h3⟩:=zbz f env we h.2 hE
  exact ⟨_,by simp only [zaj]; rw [h1,h2,h3]; rfl⟩
 | .fn _ _ bn _ b,env,we,h,hE=>by
  have hE':∀x,(bn::env).contains x=true->∃k,(WEn.cons bn 1 we).look x=some k:=fun x hx=>by
   simp only [WEn.look]
   by_cases hb:bn=x
   ·exact ⟨1,by rw [if_pos hb]⟩
   ·rw [if_neg hb]
    simp only [List.contains_cons,Bool.or_eq_true,beq_iff_eq] at hx
    exact hx.elim (fun h=>absurd h.symm hb) (hE x)
  obtain ⟨w,hw⟩:=zbz b (bn::env) _ h hE'
  exact ⟨_,by simp only [zaj]; rw [hw]; rfl⟩
 | .lett _ _ rc bn _ d b,env,we,h,hE=>by
  have hE':∀k x,(bn::env).contains x=true->∃k',(WEn.cons bn k we).look x=some k':=fun k x hx=>by
   simp only [WEn.look]
   by_cases hb:bn=x
   ·exact ⟨k,by rw [if_pos hb]⟩
   ·rw [if_neg hb]
    simp only [List.contains_cons,Bool.or_eq_true,beq_iff_eq] at hx
    exact hx.elim (fun h=>absurd h.symm hb) (hE x)
  simp only [T.freeS,Option.or_eq_none_iff] at h
  obtain ⟨w1,h1⟩:∃w,zaj d (if rc then .cons bn 1 we else we)=some w:=by
   cases rc with
   | true=>exact zbz d (bn::env) _ h.1 (hE' 1)
   | false=>exact zbz d env _ h.1 hE
  obtain ⟨w2,h2⟩:=zbz b (bn::env) (.cons bn w1 we) h.2 (hE' w1)
  exact ⟨_,by simp only [zaj]; rw [h1]; simp only [zbS]; rw [h2]; rfl⟩
theorem yc5 (t:T):∃n0 res,∀n,n0<=n->zgu n t=some res:=by
 cases hf:t.freeS [] with
 | some p=>exact ⟨0,.fault 4 p,fun n _=>by rw [zgu,hf]⟩
 | none =>
  obtain ⟨w,hw⟩:=zbz t [] .nil hf (by simp)
  by_cases hl:2000<w
  ·exact ⟨0,.fault 10 0,fun n _=>by rw [zgu,hf]; simp only; rw [hw]; simp only [zbS]; rw [if_pos hl]⟩
  ·obtain ⟨n0,r,g,_⟩:=yei hw (by omega)
   cases r with
   | none=>exact ⟨n0,.fault 5 0,fun n hn=>by rw [zgu,hf]; simp only; rw [hw]; simp only [zbS]; rw [if_neg hl,g n hn]; rfl⟩
   | some sh=>exact ⟨n0,.fine t sh,fun n hn=>by rw [zgu,hf]; simp only; rw [hw]; simp only [zbS]; rw [if_neg hl,g n hn]; rfl⟩
theorem zuz (l:List UInt8):∃fo res,∀n,fo<=n->zcd 6100 n l=some res:=by
 by_cases hl:300<l.length
 ·exact ⟨0,.fault 1 0,fun n _=>by rw [zcd,if_pos hl]⟩
 ·cases hs:split l with
  | error p=>exact ⟨0,.fault 2 p,fun n _=>by rw [zcd,if_neg hl,zk0,hs]⟩
  | ok ts =>
   obtain ⟨r,hr⟩:=ya5 (zxo hs (by omega)) 6100 (by omega)
   cases r with
   | error p=>exact ⟨0,.fault 3 p,fun n _=>by rw [zcd,if_neg hl,zk0,hs]; simp only; rw [hr]; rfl⟩
   | ok t =>
    obtain ⟨n0,res,g⟩:=yc5 t
    exact ⟨n0,res,fun n hn=>by rw [zcd,if_neg hl,zk0,hs]; simp only; rw [hr]; exact g n hn⟩
theorem zcw {fp fo:Nat} {l:List UInt8} {t:T} {sh:List UInt8} (h:zcd fp fo l=some (.fine t sh)):l.length<=300/\∃body,Lex 0 l body/\split l = .ok (body ++ [⟨0,l.length,l.length⟩])/\zb9 l (body ++ [⟨0,l.length,l.length⟩]) fp=some (.ok t)/\zgu fo t=some (.fine t sh):=by
 unfold zcd at h
 split at h
 ·cases h
 ·rename_i hl
  refine ⟨by omega,?_⟩
  unfold zk0 at h
  cases hs:split l with
  | error p=>rw [hs] at h; cases h
  | ok ts =>
   rw [hs] at h
   simp only [zbE] at h
   obtain ⟨r,hr,h⟩:=h
   cases r with
   | error p=>cases h
   | ok t' =>
    obtain ⟨body,hL,rfl⟩:=zje.1 hs
    have e:t'=t:=by
     simp only at h
     unfold zgu at h
     split at h
     ·cases h
     ·simp only [zbE] at h
      obtain ⟨k,_,h⟩:=h
      split at h
      ·cases h
      ·simp only [zbE] at h
       obtain ⟨o,_,h⟩:=h
       cases o with
       | none=>cases h
       | some s=>cases h; rfl
    subst e
    exact ⟨body,hL,rfl,hr,h⟩
end Go.Proofs.YtckhafpejefbbaaGreatDoor.Tw
namespace Go.Proofs.YtckhafpejefbbaaGreatDoor
open Go.RowKit
theorem zof {e:Tw.BEn} {env:List (List UInt8)} (hE:∀x,env.contains x=true->∃a,e.look x=some a) (bn:List UInt8) (k:Addr):∀x,(bn::env).contains x=true->∃a,(Tw.BEn.cons bn k e).look x=some a:=by
 intro x hx
 simp only [Tw.BEn.look]
 by_cases h:bn=x
 ·exact ⟨k,by rw [if_pos h]⟩
 ·rw [if_neg h]
  refine hE x ?_
  simp only [List.contains_cons,Bool.or_eq_true,beq_iff_eq] at hx
  rcases hx with hx | hx
  ·exact absurd hx.symm h
  ·exact hx
theorem NL.bound {w:World} {hi:Nat}:∀ {t:Tw.T} {v:Value} {e:Tw.BEn} {L:List NB} {env:List (List UInt8)},NL w hi t v e L->t.boundS env=true->(∀x,env.contains x=true->∃a,e.look x=some a)->∀y∈L,∃a,y.k=some a
 | .name fr to x,_,_,_,_,⟨b,_,rfl⟩,h,hE=>by
  intro y hy
  simp only [List.mem_singleton] at hy
  subst hy
  exact hE x h
 | .int ..,_,_,_,_,⟨_,rfl⟩,_,_=>by simp
 | .truth ..,_,_,_,_,⟨_,rfl⟩,_,_=>by simp
 | .side ..,_,_,_,_,⟨_,rfl⟩,_,_=>by simp
 | .bracket _ _ i,_,_,_,_,⟨v1,_,r1⟩,h,hE=>NL.bound r1 (by simpa [Tw.T.boundS] using h) hE
 | .pair ..,_,_,_,_,⟨v1,v2,L1,L2,_,r1,r2,rfl⟩,h,hE=>by
  simp only [Tw.T.boundS,Bool.and_eq_true] at h
  intro y hy
  rcases zmA.1 hy with hy | hy
  ·exact NL.bound r1 h.1 hE y hy
  ·exact NL.bound r2 h.2 hE y hy
 | .call ..,_,_,_,_,⟨v1,v2,L1,L2,_,r1,r2,rfl⟩,h,hE=>by
  simp only [Tw.T.boundS,Bool.and_eq_true] at h
  intro y hy
  rcases zmA.1 hy with hy | hy
  ·exact NL.bound r1 h.1 hE y hy
  ·exact NL.bound r2 h.2 hE y hy
 | .binary ..,_,_,_,_,⟨v1,v2,L1,L2,_,r1,r2,rfl⟩,h,hE=>by
  simp only [Tw.T.boundS,Bool.and_eq_true] at h
  intro y hy
  rcases zmA.1 hy with hy | hy
  ·exact NL.bound r1 h.1 hE y hy
  ·exact NL.bound r2 h.2 hE y hy
 | .cond ..,_,_,_,_,⟨v1,v2,v3,L1,L2,L3,_,r1,r2,r3,rfl⟩,h,hE=>by
  simp only [Tw.T.boundS,Bool.and_eq_true] at h
  intro y hy
  rcases zmA.1 hy with hy | hy
  ·rcases zmA.1 hy with hy | hy
   ·exact NL.bound r1 h.1 hE y hy
   ·exact NL.bound r2 h.2.1 hE y hy
  ·exact NL.bound r3 h.2.2 hE y hy
 | .fn ..,_,_,_,_,⟨k,v1,_,r1⟩,h,hE=>NL.bound r1 (by simpa [Tw.T.boundS] using h) (zof hE _ _)
 | .lett fr to rc bn bat d b,_,_,_,_,⟨k,v1,v2,L1,L2,_,r1,r2,rfl⟩,h,hE=>by
  simp only [Tw.T.boundS,Bool.and_eq_true] at h
  intro y hy
  rcases zmA.1 hy with hy | hy
  ·cases rc
   ·exact NL.bound r1 h.1 hE y hy
   ·exact NL.bound r1 h.1 (zof hE _ _) y hy
  ·exact NL.bound r2 h.2 (zof hE _ _) y hy
theorem zu0 {t:Tw.T} (h:t.boundS []=true):zri t:=fun _ _ _ _ hn=>hn.bound h (by simp)
end Go.Proofs.YtckhafpejefbbaaGreatDoor
namespace Go.Proofs.YtckhafpejefbbaaGreatDoor.Tw
open Go Go.RowKit
open Go Go.RowKit
end Go.Proofs.YtckhafpejefbbaaGreatDoor.Tw
namespace Go.Proofs.YtckhafpejefbbaaGreatDoor
open Go.RowKit
theorem zu1 (x:Int) (n:Nat) (hx:0<=x) (hn:0<n):∃r:Nat,x.tmod n=r/\r<n:=by
 refine ⟨(x.tmod n).toNat,?_,?_⟩
 ·rw [Int.tmod_eq_emod_of_nonneg hx]
  have:=Int.emod_nonneg x (show (n:Int)≠0 by omega)
  omega
 ·rw [Int.tmod_eq_emod_of_nonneg hx]
  have:=Int.emod_nonneg x (show (n:Int)≠0 by omega)
  have:=Int.emod_lt_of_pos x (show (0:Int)<n by omega)
  omega
theorem zxq (hIB:Said.IndexByte) (hPI:Said.ParseInt) {S:List TypeId} {t:Tw.T} {shown:List UInt8} {s:ByteArray} (hF:Fine S s t shown) (w:World) :
  Calls Tryz.prog 19 #[.string s] w fun e w'=>∃bt,e = .returned (.pointer (some ⟨bt,0,none⟩))/\TextAt w' bt s t/\TK w.heap.size S w w':=by
 go_enter Tryz.func19,Tryz.ntmps19
 go_wp2_with fail
 refine (yau hIB hPI hF w).mono ?_
 rintro e1 w1 ⟨bt,rfl,hT,hk⟩
 have T1:=bV hT
 have K1:=bV hk
 clear hT hk
 go_wp2_with fail
 refine (zhl (uh T1)).mono ?_
 rintro e1 w2 ⟨rfl,rfl⟩
 go_wp2_with fail
 go_ret
 exact ⟨bt,rfl,uh T1,uh K1⟩
structure Lib4:Prop where
 ib:Said.IndexByte
 pi:Said.ParseInt
 fi:Said.FormatInt
 fb:Said.FormatBool
def intB (fuel:Nat) (t:Tw.T):Bool :=
 match Tw.zav fuel t .nil ss0 with
 | some (r,st1) => !st1.clash&&(match Tw.zhs fuel st1 with
  | some (false,st2)=>(match Tw.zdq fuel st2 r with
   | some (p,st3)=>(match st3.shs[p]? with
    | some x=>decide (x.sort=1)
    | none=>false)
   | none=>false)
  | _=>false)
 | none=>false
theorem zu2 {fuel:Nat} {t:Tw.T} (h:intB fuel t=true):IntTyped t:=by
 unfold intB at h
 split at h
 ·rename_i r st1 h1
  simp only [Bool.and_eq_true,Bool.not_eq_true'] at h
  obtain ⟨h2,h⟩:=h
  split at h
  ·rename_i st2 h3
   split at h
   ·rename_i p st3 h4
    split at h
    ·rename_i x h5
     exact ⟨fuel,r,p,st1,st2,st3,x,h1,h2,h3,h4,h5,of_decide_eq_true h⟩
    ·cases h
   ·cases h
  ·cases h
 ·cases h
def txA:ByteArray:=⟨#[40,102,117,110,32,120,32,45,62,32,120,32,43,32,49,41,32,52]⟩
def tA:Tw.T:=.call 0 18 (.bracket 0 16 (.fn 1 15 [120] 5 (.binary 10 15 19 (.name 10 11 [120]) (.int 14 15 1)))) (.int 17 18 4)
def yd5:List Tw.Tok:=[⟨16,0,1⟩,⟨6,1,4⟩,⟨1,5,6⟩,⟨14,7,9⟩,⟨1,10,11⟩,⟨19,12,13⟩,⟨2,14,15⟩,⟨17,15,16⟩,⟨2,17,18⟩,⟨0,18,18⟩]
theorem yfu:Tw.split txA.data.toList = .ok yd5:=by kernel_rfl
theorem yfv:Tw.zb9 txA.data.toList yd5 100=some (.ok tA):=by kernel_rfl
theorem ye6:Tw.zaj tA .nil=some 7:=by kernel_rfl
theorem yfw:tA.boundS []=true:=by kernel_rfl
theorem intA:intB 100 tA=true:=by kernel_rfl
theorem yc6 {v:Nat} (hv:v<10 ^ 18):Tw.zju 400 (Tw.zdd (.num v) [])=Lib.decDigits v:=by
 have hl:=zgc 17 v hv
 have e:Lib.itoa (v:Int)=Lib.decDigits v:=by
  unfold Lib.itoa
  rw [if_neg (by omega)]
  simp
 unfold Tw.zdd
 rw [if_neg (by simp),Tw.putS,if_neg (by simp),List.nil_append,e,Tw.zju,if_neg (by omega)]
theorem runA:Tw.runS 100 tA 5=some (0,1,[53]):=by
 have:Tw.zap 5 100 tA [] ⟨[],0,0⟩=some (some (.num (5:Nat)),⟨[some (.num 4)],1,0⟩):=by kernel_rfl
 rw [Tw.runS,this,zbS]
 simp only
 rw [yc6 (by decide),show Lib.decDigits 5=[53] from by unfold Lib.decDigits; rfl]
theorem yfe:Fine ShS txA tA [105,110,116]:=⟨by decide,⟨yd5,100,yfu,yfv⟩,zu0 yfw,⟨7,ye6,by omega⟩,(zu2 intA).said,by decide⟩
abbrev LawS:List TypeId:=[128,334,329,5,311,117]
theorem ya7 (w:World) (x y z:Value) (t:TypeId):(w.alloc (.cells #[x,y,z] t)).heap[w.heap.size]? = some (.cells #[x,y,z] t (0,0)):=zad w _
theorem zsh (L:Lib4) {w:World} (hT:Tab w) (hG:1<w.heap.size) :
  Calls Tryz.prog 15 #[] w fun e w'=>e = .returned (.bool true)/\TK w.heap.size LawS w w':=by
 have HT:=bV hT
 clear hT
 go_enter Tryz.func15,Tryz.ntmps15
 go_wp2_with fail
 refine (zxq L.ib L.pi yfe w).mono ?_
 rintro e1 w1 ⟨bt,rfl,hX,hk⟩
 have X1:=bV hX
 have K1:=bV (hk.sub (S':=LawS) (by decide))
 have z1:=hk.size
 clear hX hk
 go_wp2_with fail
 refine (zk7 L.fi L.fb 5 (uh X1) ((uh HT).tk (uh K1) hG) (by omega) (show Tw.runS 100 tA (zjn 5)=some (0,1,[53]) from runA)).mono ?_
 rintro e1 w2 ⟨rfl,hk⟩
 have z2:=hk.size
 have K2:=bV ((uh K1).trans ((hk.base z1).sub (by decide)))
 have X2:=bV ((uh X1).tk hk (by decide))
 clear hk
 go_wp2_with fail
 have G2:Hid (w2.grownBy (w2.alloc (.cells #[.int .i64 0,.int .i64 1,.string ⟨#[53]⟩] 39)) none):=zwA _ _ none
 refine (ziv (S:=ShS) ((uh X2).tk (TK.of_grown 0 ShS G2.out) (by decide)) yfe.of).mono ?_
 rintro e1 w3 ⟨rfl,hk⟩
 have K3:=bV (((uh K2).trans (TK.of_grown _ _ G2.out)).trans ((hk.base (by have:=G2.out.size; omega)).sub (S':=LawS) (by decide)))
 have C3:=hk.cells (ya7 w2 (.int .i64 0) (.int .i64 1) (.string ⟨#[53]⟩) 39) (by decide)
 obtain ⟨c0,c1,c2,_,_,_⟩:=zaf C3
 clear hk C3
 go_wp2_with fail
 go_ret
 exact ⟨rfl,uh K3⟩
open Go.RowKit
open Go.RowKit
structure Dig (u:Nat) (d:List UInt8):Prop where
 val:Tw.zfs d=some (u:Int)
 dig:∀c∈d,Tw.zas c.toNat=true
 pos:1<=d.length
 len:d.length<=3
 ne:d ≠ []
open Go.RowKit
open Go.RowKit
theorem zqq (c:Int) (n:Nat) (h0 : -9223372036854775808<=c) (h1:c<=9223372036854775807) (hn:0<n) (hn2:n<=1000000) :
  ∃r:Nat,r<n/\∀w:World,Calls Tryz.prog 17 #[.int .i64 c,.int .i64 n] w fun e w'=>e = .returned (.int .i64 r)/\w=w':=by
 have hz:((n:Int)==0)=false:=by simp; omega
 have hn0:(n:Int)≠0:=by omega
 by_cases hc:c<0
 ·obtain ⟨r,hr,hr2⟩:=zu1 (-(c+1)) n (by omega) hn
  rw [Int.neg_tmod] at hr
  refine ⟨r,hr2,fun w => ?_⟩
  go_enter Tryz.func17,Tryz.ntmps17
  go_wp2_with fail
  go_ret
  exact ⟨rfl,rfl⟩
 ·obtain ⟨r,hr,hr2⟩:=zu1 c n (by omega) hn
  refine ⟨r,hr2,fun w => ?_⟩
  go_enter Tryz.func17,Tryz.ntmps17
  go_wp2_with fail
  go_ret
  exact ⟨rfl,rfl⟩
structure Lib5:Prop extends Lib4 where
 it:Said.ItoaSmall
end Go.Proofs.YtckhafpejefbbaaGreatDoor
