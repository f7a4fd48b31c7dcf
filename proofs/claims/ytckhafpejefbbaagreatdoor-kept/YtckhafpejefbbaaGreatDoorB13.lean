/- Texts of the proof, put together: Each, Each2, Each3, NamesIt, Read, Read2, ReadTw, TyThy7, Read3, Open, Open2, RunMem, RunBoth, RunApply. -/
import Derived.Test.YtckhafpejefbbaaGreatDoorB10
import Derived.RangeFuncNested
import Derived.RangeFuncBound
import Derived.RangeFuncCalls
import Derived.RangeFuncLeaves
import Derived.Shelf.Abstract
import Derived.Shelf.RegionOpen
import Derived.OwnWalkIn
import Derived.TacticsInMore
import Derived.Deep.RegionHeld3
import Derived.Deep.RegionWith
import Derived.Test.YtckhafpejefbbaaGreatDoorB12
import Derived.Test.YtckhafpejefbbaaGreatDoorB03
import Derived.Test.YtckhafpejefbbaaGreatDoorB09
import Derived.Test.YtckhafpejefbbaaGreatDoorB11

set_option maxRecDepth 100000
set_option maxHeartbeats 4000000
namespace Go.Proofs.YtckhafpejefbbaaGreatDoor
open Go.RowKit Go.Shelf
attribute [local go_sem] Oper.semAt_some
structure NB where
 nb:Nat
 fr:Nat
 to:Nat
 tx:List UInt8
 e:Tw.BEn
def NB.k (x:NB):Option Addr:=x.e.look x.tx
def zh9:List TypeId:=[87,194,198,201,206,229,319,322,326,235,140,68,302,182,187,135,130,247,79]
def Kp (W W':World):Prop:=∀(k:Nat) (c:Array Value) (t:TypeId) (m:Nat×Nat),W.heap[k]? = some (.cells c t m)->zh9.contains t=true->W'.heap[k]? = some (.cells c t m)
theorem Kp.refl (W:World):Kp W W:=fun _ _ _ _ h _=>h
theorem Kp.trans {A B C:World} (h:Kp A B) (k:Kp B C):Kp A C:=fun i c t m x y=>k i c t m (h i c t m x y) y
theorem Kp.of_grown {A B:World} (h:A.grownBy B none):Kp A B:=fun i _ _ _ x _=>(h.block i (zgE.1 x).1 (by simp)).trans x
def NL (w:World) (hi:Nat):Tw.T->Value->Tw.BEn->List NB->Prop
 | .name fr to tx,v,e,L=>∃b,(v = .iface 83 (.pointer (some ⟨b,0,none⟩))/\w.heap[b]? = some (.cells #[.int .i64 fr,.int .i64 to,ug tx] 87 (0,0)))/\L=[⟨b,fr,to,tx,e⟩]
 | .int fr to n,v,_,L=>nodeAt w 0 hi fr to [.int .i64 n] 191 194 v/\L=[]
 | .truth fr to b,v,_,L=>nodeAt w 0 hi fr to [.bool b] 195 198 v/\L=[]
 | .side fr to b,v,_,L=>nodeAt w 0 hi fr to [.bool b] 199 201 v/\L=[]
 | .bracket fr to i,v,e,L=>∃v1,nodeAt w 0 hi fr to [v1] 204 206 v/\NL w hi i v1 e L
 | .pair fr to l r,v,e,L=>∃v1 v2 L1 L2,nodeAt w 0 hi fr to [v1,v2] 207 229 v/\NL w hi l v1 e L1/\NL w hi r v2 e L2/\L=L1++L2
 | .call fr to l r,v,e,L=>∃v1 v2 L1 L2,nodeAt w 0 hi fr to [v1,v2] 209 319 v/\NL w hi l v1 e L1/\NL w hi r v2 e L2/\L=L1++L2
 | .binary fr to sg l r,v,e,L=>∃v1 v2 L1 L2,nodeAt w 0 hi fr to [.int .i64 sg,v1,v2] 211 322 v/\NL w hi l v1 e L1/\NL w hi r v2 e L2/\L=L1++L2
 | .cond fr to c t f,v,e,L=>∃v1 v2 v3 L1 L2 L3,nodeAt w 0 hi fr to [v1,v2,v3] 213 326 v/\NL w hi c v1 e L1/\NL w hi t v2 e L2/\NL w hi f v3 e L3/\L=L1++L2++L3
 | .fn fr to bn bat b,v,e,L=>∃k v1,(k<hi/\v = .iface 215 (.pointer (some ⟨k,0,none⟩))/\w.heap[k]? = some (.cells #[.int .i64 fr,.int .i64 to,ug bn,.int .i64 bat,v1] 235 (0,0)))/\NL w hi b v1 (.cons bn ⟨k,2,none⟩ e) L
 | .lett fr to rc bn bat d b,v,e,L=>∃k v1 v2 L1 L2,(k<hi/\v = .iface 136 (.pointer (some ⟨k,0,none⟩))/\w.heap[k]? = some (.cells #[.int .i64 fr,.int .i64 to,.bool rc,ug bn,.int .i64 bat,v1,v2] 140 (0,0))) /\
  NL w hi d v1 (if rc then .cons bn ⟨k,3,none⟩ e else e) L1/\NL w hi b v2 (.cons bn ⟨k,3,none⟩ e) L2/\L=L1++L2
theorem nodeAt.kp {w w':World} {lo hi fr to:Nat} {rest:List Value} {pt st:TypeId} {v:Value} (h:nodeAt w lo hi fr to rest pt st v) (hk:Kp w w') (hs:zh9.contains st=true):nodeAt w' lo hi fr to rest pt st v:=by
 obtain ⟨b,h1,h1',h2,h3⟩:=h
 exact ⟨b,h1,h1',h2,hk _ _ _ _ h3 hs⟩
theorem NL.kp {w w':World} {hi:Nat} (hk:Kp w w'):∀ {t:Tw.T} {v:Value} {e:Tw.BEn} {L:List NB},NL w hi t v e L->NL w' hi t v e L
 | .name ..,_,_,_,⟨b,⟨h1,h2⟩,h3⟩=>⟨b,⟨h1,hk _ _ _ _ h2 (by decide)⟩,h3⟩
 | .int ..,_,_,_,⟨h,hl⟩=>⟨h.kp hk (by decide),hl⟩
 | .truth ..,_,_,_,⟨h,hl⟩=>⟨h.kp hk (by decide),hl⟩
 | .side ..,_,_,_,⟨h,hl⟩=>⟨h.kp hk (by decide),hl⟩
 | .bracket ..,_,_,_,⟨v1,h,r1⟩=>⟨v1,h.kp hk (by decide),NL.kp hk r1⟩
 | .pair ..,_,_,_,⟨v1,v2,L1,L2,h,r1,r2,hl⟩=>⟨v1,v2,L1,L2,h.kp hk (by decide),NL.kp hk r1,NL.kp hk r2,hl⟩
 | .call ..,_,_,_,⟨v1,v2,L1,L2,h,r1,r2,hl⟩=>⟨v1,v2,L1,L2,h.kp hk (by decide),NL.kp hk r1,NL.kp hk r2,hl⟩
 | .binary ..,_,_,_,⟨v1,v2,L1,L2,h,r1,r2,hl⟩=>⟨v1,v2,L1,L2,h.kp hk (by decide),NL.kp hk r1,NL.kp hk r2,hl⟩
 | .cond ..,_,_,_,⟨v1,v2,v3,L1,L2,L3,h,r1,r2,r3,hl⟩=>⟨v1,v2,v3,L1,L2,L3,h.kp hk (by decide),NL.kp hk r1,NL.kp hk r2,NL.kp hk r3,hl⟩
 | .fn ..,_,_,_,⟨k,v1,⟨h0,h1,h2⟩,r1⟩=>⟨k,v1,⟨h0,h1,hk _ _ _ _ h2 (by decide)⟩,NL.kp hk r1⟩
 | .lett ..,_,_,_,⟨k,v1,v2,L1,L2,⟨h0,h1,h2⟩,r1,r2,hl⟩=>⟨k,v1,v2,L1,L2,⟨h0,h1,hk _ _ _ _ h2 (by decide)⟩,NL.kp hk r1,NL.kp hk r2,hl⟩
theorem BAt.kp {w w':World} (hk:Kp w w'):∀ {e:Tw.BEn} {v:Value},BAt w e v->BAt w' e v
 | .nil,_,h=>h
 | .cons ..,_,⟨b,vo,hv,hb,ho⟩=>⟨b,vo,hv,hk _ _ _ _ hb (by decide),BAt.kp hk ho⟩
theorem NL.of_rep {w:World} {hi:Nat}:∀ {t:Tw.T} {v:Value} (e:Tw.BEn),Rep w 0 hi t v->∃L,NL w hi t v e L
 | .name ..,_,_,⟨b,_,_,h2,h3⟩=>⟨_,b,⟨h2,h3⟩,rfl⟩
 | .int ..,_,_,h=>⟨_,h,rfl⟩
 | .truth ..,_,_,h=>⟨_,h,rfl⟩
 | .side ..,_,_,h=>⟨_,h,rfl⟩
 | .bracket ..,_,e,⟨v1,h,r1⟩=>let ⟨L,n1⟩:=NL.of_rep e r1; ⟨L,v1,h,n1⟩
 | .pair ..,_,e,⟨v1,v2,h,r1,r2⟩=>let ⟨L1,n1⟩:=NL.of_rep e r1; let ⟨L2,n2⟩:=NL.of_rep e r2; ⟨_,v1,v2,L1,L2,h,n1,n2,rfl⟩
 | .call ..,_,e,⟨v1,v2,h,r1,r2⟩=>let ⟨L1,n1⟩:=NL.of_rep e r1; let ⟨L2,n2⟩:=NL.of_rep e r2; ⟨_,v1,v2,L1,L2,h,n1,n2,rfl⟩
 | .binary ..,_,e,⟨v1,v2,h,r1,r2⟩=>let ⟨L1,n1⟩:=NL.of_rep e r1; let ⟨L2,n2⟩:=NL.of_rep e r2; ⟨_,v1,v2,L1,L2,h,n1,n2,rfl⟩
 | .cond ..,_,e,⟨v1,v2,v3,h,r1,r2,r3⟩=>let ⟨L1,n1⟩:=NL.of_rep e r1; let ⟨L2,n2⟩:=NL.of_rep e r2; let ⟨L3,n3⟩:=NL.of_rep e r3; ⟨_,v1,v2,v3,L1,L2,L3,h,n1,n2,n3,rfl⟩
 | .fn _ _ bn _ _,_,e,⟨v1,⟨b,_,hb,h2,h3⟩,r1⟩=>let ⟨L,n1⟩:=NL.of_rep (.cons bn ⟨b,2,none⟩ e) r1; ⟨L,b,v1,⟨hb,h2,h3⟩,n1⟩
 | .lett _ _ rc bn _ _ _,_,e,⟨v1,v2,⟨b,_,hb,h2,h3⟩,r1,r2⟩=>let ⟨L1,n1⟩:=NL.of_rep (if rc then .cons bn ⟨b,3,none⟩ e else e) r1; let ⟨L2,n2⟩:=NL.of_rep (.cons bn ⟨b,3,none⟩ e) r2; ⟨_,b,v1,v2,L1,L2,⟨hb,h2,h3⟩,n1,n2,rfl⟩
theorem NL.iface {w:World} {hi:Nat} {t:Tw.T} {v:Value} {e:Tw.BEn} {L:List NB} (h:NL w hi t v e L):∃T n,v = .iface T (.pointer (some ⟨n,0,none⟩)):=by
 cases t with
 | name=>obtain ⟨b,⟨h,_⟩,_⟩:=h; exact ⟨_,_,h⟩
 | int=>obtain ⟨⟨b,_,_,h,_⟩,_⟩:=h; exact ⟨_,_,h⟩
 | truth=>obtain ⟨⟨b,_,_,h,_⟩,_⟩:=h; exact ⟨_,_,h⟩
 | side=>obtain ⟨⟨b,_,_,h,_⟩,_⟩:=h; exact ⟨_,_,h⟩
 | bracket=>obtain ⟨_,⟨b,_,_,h,_⟩,_⟩:=h; exact ⟨_,_,h⟩
 | pair=>obtain ⟨_,_,_,_,⟨b,_,_,h,_⟩,_⟩:=h; exact ⟨_,_,h⟩
 | call=>obtain ⟨_,_,_,_,⟨b,_,_,h,_⟩,_⟩:=h; exact ⟨_,_,h⟩
 | binary=>obtain ⟨_,_,_,_,⟨b,_,_,h,_⟩,_⟩:=h; exact ⟨_,_,h⟩
 | cond=>obtain ⟨_,_,_,_,_,_,⟨b,_,_,h,_⟩,_⟩:=h; exact ⟨_,_,h⟩
 | fn=>obtain ⟨_,_,⟨_,h,_⟩,_⟩:=h; exact ⟨_,_,h⟩
 | lett=>obtain ⟨_,_,_,_,_,⟨_,h,_⟩,_⟩:=h; exact ⟨_,_,h⟩
abbrev zdb (l:Nat):Value:=.func (.yield l) #[] #[]
abbrev yd3 (F c:Nat):Value:=.func (.func F) #[] #[.pointer (some ⟨c,0,none⟩)]
structure zmm (F c:Nat) (L0:List NB) (J Jx:List NB->World->Prop):Prop where
 enter:∀(args:Array Value) (W:World),Sem.run Tryz.prog (callFunc F args) W = .ok (.enter F args) W
 grown:∀ {s:List NB} {W W':World},J s W->W.grownBy W' none->J s W'
 call:∀(pre:List NB) (x:NB) (W:World) (ev:Value),J pre W->(pre ++ [x]) <+: L0->W.heap[x.nb]? = some (.cells #[.int .i64 x.fr,.int .i64 x.to,ug x.tx] 87 (0,0))->BAt W x.e ev ->
  Calls Tryz.prog F #[.pointer (some ⟨x.nb,0,none⟩),ev,.pointer (some ⟨c,0,none⟩)] W fun e W' =>
  (e = .returned (.bool true)/\J (pre ++ [x]) W'/\Kp W W')\/(e = .returned (.bool false)/\Jx (pre ++ [x]) W')
def EPost (J Jx:List NB->World->Prop) (pre L:List NB) (w:World) (r:Ending) (w':World):Prop :=
 (r = .returned (.bool true)/\J (pre++L) w'/\Kp w w')\/(r = .returned (.bool false)/\∃q,q <+: L/\Jx (pre++q) w')
def zph (F c:Nat) (L0:List NB) (J Jx:List NB->World->Prop) (t:Tw.T):Prop:=∀ {w:World} {hi:Nat} {tv ev:Value} {e:Tw.BEn} {pre L:List NB},NL w hi t tv e L->BAt w e ev->J pre w->(pre++L) <+: L0 ->
 Calls Tryz.prog 84 #[tv,ev,yd3 F c] w (EPost J Jx pre L w)
variable {F c : Nat} {L0 : List NB} {J Jx : List NB -> World -> Prop}
theorem yap (hY:zmm F c L0 J Jx) {fr to:Nat} {x:List UInt8}:zph F c L0 J Jx (.name fr to x):=by
 intro w hi tv ev e pre L hn he hJ hp
 obtain ⟨b,⟨rfl,hb⟩,rfl⟩:=hn
 have HC:=bV (hY.call pre ⟨b,fr,to,x,e⟩ w ev hJ hp hb he)
 dsimp only at HC
 obtain ⟨a,rfl⟩:=he.ptr
 have q0:=zfh
 clear he hb hJ
 go_enter Tryz.func84,Tryz.ntmps84
 go_wp2_with fail
 rw [hY.enter]
 refine (uh HC).mono ?_
 rintro e2 W2 (⟨rfl,hJ2,hk2⟩ | ⟨rfl,hx2⟩)
 ·go_wp2_with fail
  go_ret
  exact .inl ⟨rfl,hJ2,hk2⟩
 ·go_wp2_with fail
  go_ret
  exact .inr ⟨rfl,_,List.prefix_refl _,hx2⟩
def KidE (F c:Nat) (J Jx:List NB->World->Prop) (ev v:Value) (w:World) (pre L:List NB):Prop:=∀W:World,Kp w W->J pre W->Calls Tryz.prog 84 #[v,ev,yd3 F c] W (EPost J Jx pre L W)
def zew (Ls:List (List NB)) (q:Nat):List NB:=(Ls.take q).flatten
theorem zxd (Ls:List (List NB)) (q:Nat) (h:q<Ls.length):zew Ls (q+1)=zew Ls q++Ls[q]:=by
 unfold zew
 rw [List.take_succ_eq_append_getElem h,List.flatten_append]
 simp
theorem zej (hY:zmm F c L0 J Jx) {PT:TypeId} {w:World} {b:Nat} {ev:Value} {vs:List Value} {Ls:List (List NB)} {pre:List NB}
  (q0:TaNo PT 83)
  (q1:TaNo PT 215)
  (q2:TaNo PT 136)
  (hP:Calls Tryz.prog 162 #[.iface PT (.pointer (some ⟨b,0,none⟩))] w (zbw w vs)) (hea:∃a,ev = .pointer a)
  (hlen:vs.length=Ls.length) (hl3:Ls.length<=3) (hK:∀j (h1:j<vs.length) (h2:j<Ls.length),(∃T n,vs[j] = .iface T (.pointer (some ⟨n,0,none⟩)))/\KidE F c J Jx ev vs[j] w (pre++zew Ls j) Ls[j]) (hJ:J pre w) :
  Calls Tryz.prog 84 #[.iface PT (.pointer (some ⟨b,0,none⟩)),ev,yd3 F c] w (EPost J Jx pre Ls.flatten w):=by
 obtain ⟨a,rfl⟩:=hea
 have HP:=bV hP
 have HK:=bV hK
 have HJ:=bV hJ
 clear hP hK hJ
 go_enter Tryz.func84,Tryz.ntmps84
 go_wp2_with fail
 refine (uh HP).mono ?_
 rintro e1 w1 ⟨hg,hcase⟩
 have G1:Hid (w.grownBy w1 none):=hg
 have J1:Hid (J pre w1):=hY.grown (uh HJ) hg
 clear hg
 clear q0 q1 q2
 rcases hcase with ⟨rfl,rfl⟩ | ⟨k,rfl,hk⟩
 ·have hk0:Ls=[]:=by simpa using hlen.symm
  subst hk0
  go_wp2_with fail
  go_loopg [79] 0 (fun j iv wr=>iv = .int .i64 0/\wr=w1)
  case atStart=>exact ⟨rfl,rfl⟩
  case round =>
   obtain ⟨rfl,rfl⟩:=hrel
   go_wp2_with fail
   go_ret
   go_light
   exact .inl ⟨rfl,by simpa using J1.out,Kp.of_grown G1.out⟩
 ·have C1:Hid (w1.heap[k]? = some (.cells (zht vs) 68 (0,0))):=hk
  clear hk
  have c65:Tryz.prog.cellsOf 68=1:=by kernel_rfl
  obtain ⟨N,hV⟩:∃N,vs.length=N:=⟨_,rfl⟩
  rw [hV]
  have HV:=bV hV
  have hLN:N=Ls.length:=by omega
  have HLN:=bV hLN
  have hN3:N<=3:=by omega
  clear hV hlen hLN
  go_wp2_with fail
  go_loopg [79] N (fun j iv wr=>∃q:Nat,j+q=N/\q<=N/\iv = .int .i64 q/\Hid (J (pre++zew Ls q) wr)/\Hid (Kp w1 wr))
  case atStart=>exact ⟨0,by omega,by omega,rfl,by simpa [zew] using J1,Kp.refl _⟩
  case round =>
   obtain ⟨q,hjq,hq,rfl,JR,KR⟩:=hrel
   by_cases hlt:q<N
   ·have h1:q<vs.length:=by rw [uh HV]; exact hlt
    have h2:q<Ls.length:=by rw [<-uh HLN]; exact hlt
    obtain ⟨⟨T,nn,hv⟩,hks⟩:=uh HK q h1 h2
    rw [hv] at hks
    have hc:wr.cell? ⟨k,q,none⟩=some (.iface T (.pointer (some ⟨nn,0,none⟩))):=by
     rw [cell_of_row wr k _ _ _ _ (KR.out _ _ _ _ C1.out (by decide))]
     simp [zht,h1,hv]
    have hqi:(q:Int)<(N:Int):=by omega
    have KS:=bV (hks wr ((Kp.of_grown G1.out).trans KR.out) JR.out)
    have hss:=bV (zxd Ls q h2)
    have HL:Hid (zew Ls q++Ls[q] <+: Ls.flatten):=by
     show _ <+: _
     rw [<-uh hss]
     exact ⟨(Ls.drop (q+1)).flatten,by unfold zew; rw [<-List.flatten_append,List.take_append_drop]⟩
    generalize Ls[q]=Lq at *
    clear hks hv h1 h2
    go_wp2_with fail
    refine (uh KS).mono ?_
    rintro e2 w2 (⟨rfl,hj2,hk2⟩ | ⟨rfl,p,hp,hx⟩)
    ·have J2:Hid (J (pre++zew Ls (q+1)) w2):=by show J _ _; rw [uh hss,<-List.append_assoc]; exact hj2
     have K2:Hid (Kp w1 w2):=KR.out.trans hk2
     clear hj2 hk2
     go_wp2_with fail
     go_roundg (gk-1)
     case measure=>omega
     case rel=>exact ⟨q+1,by omega,by omega,by go_num,J2,K2⟩
    ·have X:Hid (∃p',p' <+: Ls.flatten/\Jx (pre++p') w2):=by
      refine ⟨zew Ls q++p,?_,by rw [<-List.append_assoc]; exact hx⟩
      obtain ⟨r,hr⟩:=hp
      obtain ⟨r',hr'⟩:=uh HL
      exact ⟨r++r',by rw [<-hr',<-hr]; simp [List.append_assoc]⟩
     clear hp hx
     go_wp2_with fail
     go_ret
     go_light
     exact .inr ⟨rfl,X.out⟩
   ·have hqN:q=N:=by omega
    have J2:Hid (J (pre++Ls.flatten) wr):=by
     have:=JR.out
     rw [hqN,uh HLN] at this
     unfold zew at this
     rw [List.take_length] at this
     exact this
    clear hqN
    go_wp2_with fail
    go_ret
    go_light
    exact .inl ⟨rfl,J2.out,(Kp.of_grown G1.out).trans KR.out⟩
open Go.RowKit Go.Shelf
variable {F c : Nat} {L0 : List NB} {J Jx : List NB -> World -> Prop}
theorem EPost.one {pre L:List NB} {w:World} {r:Ending} {w':World} (h:EPost J Jx pre L w r w'):∃bv,r = .returned (.bool bv)/\EPost J Jx pre L w (.returned (.bool bv)) w':=by
 rcases h with ⟨rfl,h⟩ | ⟨rfl,h⟩
 ·exact ⟨true,rfl,.inl ⟨rfl,h⟩⟩
 ·exact ⟨false,rfl,.inr ⟨rfl,h⟩⟩
theorem EPost.from {pre L:List NB} {w w0:World} {r:Ending} {w':World} (h:EPost J Jx pre L w r w') (hk:Kp w0 w):EPost J Jx pre L w0 r w' :=
 h.imp (fun ⟨a,b,c⟩=>⟨a,b,hk.trans c⟩) id
theorem ycp (hY:zmm F c L0 J Jx) {fr to bat:Nat} {bn:List UInt8} {body:Tw.T} (hB:zph F c L0 J Jx body):zph F c L0 J Jx (.fn fr to bn bat body):=by
  intro w hi tv ev e pre L hn he hJ hp
  obtain ⟨b,v1,⟨_,rfl,hb⟩,n1⟩:=hn
  have HE:=bV he
  have R0:=bV n1
  have B0:=bV hb
  have HJ:=bV hJ
  have HP:=bV hp
  obtain ⟨T0,n0,rfl⟩:=n1.iface
  obtain ⟨_,_,c2,_,c4⟩:=zcf hb
  obtain ⟨a,rfl⟩:=he.ptr
  have q0:=zgi
  have q1:=zdw
  have q2:=zei
  clear he hb n1 hJ hp
  go_enter Tryz.func84,Tryz.ntmps84
  go_wp2_with fail
  have D1:Hid (w.grownBy w.drew none):=zac (zab _)
  go_region_with (first
      | (go_at_call 161; refine (zsa ((uh HE).grown D1.out) bn ⟨b,2,none⟩).mono ?_; rintro e1 w2 ⟨sa,rfl,hg,hn⟩
         have G2:Hid (w.grownBy w2 none):=zaa D1.out hg
         have N2:=bV hn
         have B2:=zcf ((zaa D1.out hg).block b (zgE.1 B0.out).1 (by simp) |>.trans B0.out)
         obtain ⟨_,_,d2,_,d4⟩:=B2
         clear hg hn)
      | (go_at_call 84; refine (hB ((uh R0).kp (Kp.of_grown G2.out)) (uh N2) (hY.grown (uh HJ) G2.out) (uh HP)).mono ?_; rintro e1 w3 hx
         obtain ⟨bv,rfl,hx⟩:=hx.one
         have X:=bV (hx.from (Kp.of_grown G2.out))
         clear hx))
  all_goals (go_wp2_with fail; go_ret; exact X.out)
open Go.RowKit Go.Shelf
variable {F c : Nat} {L0 : List NB} {J Jx : List NB -> World -> Prop}
theorem ycq (hY:zmm F c L0 J Jx) {fr to bat:Nat} {rc:Bool} {bn:List UInt8} {d x:Tw.T} (hD:zph F c L0 J Jx d) (hX:zph F c L0 J Jx x):zph F c L0 J Jx (.lett fr to rc bn bat d x):=by
  intro w hi tv ev e pre L hn he hJ hp
  obtain ⟨b,v1,v2,L1,L2,⟨_,rfl,hb⟩,n1,n2,rfl⟩:=hn
  have HE:=bV he
  have R1:=bV n1
  have R2:=bV n2
  have B0:=bV hb
  have HJ:=bV hJ
  have HP:=bV hp
  have HP1:Hid (pre++L1 <+: L0):=by
    obtain ⟨r,hr⟩:=hp
    exact ⟨L2++r,by rw [<-hr]; simp [List.append_assoc]⟩
  obtain ⟨T1,k1,rfl⟩:=n1.iface
  obtain ⟨T2,k2,rfl⟩:=n2.iface
  obtain ⟨c2,c3,c5,c6⟩:=za1 hb
  obtain ⟨a,rfl⟩:=he.ptr
  have q0:=zgj
  have q1:=zdx
  have q2:=zcv
  clear he hb n1 n2 hJ hp
  go_enter Tryz.func84,Tryz.ntmps84
  go_wp2_with fail
  have D1:Hid (w.grownBy w.drew none):=zac (zab _)
  go_region_held3 (fun W=>W.cell? ⟨b,3,none⟩=some (ug bn)) (go_keep)
    (first
      | (go_at_call 161; refine (zsa ((uh HE).grown D1.out) bn ⟨b,3,none⟩).mono ?_; rintro e1 w2 ⟨sa,rfl,hg,hn⟩
         have G2:Hid (w.grownBy w2 none):=zaa D1.out hg
         have N2:=bV hn
         have B2:=za1 ((zaa D1.out hg).block b (zgE.1 B0.out).1 (by simp) |>.trans B0.out)
         obtain ⟨d2,d3,d5,d6⟩:=B2
         clear hg hn))
  clear c2 c3 c5 c6 q0 q1 q2
  have key:Hid (∃iv,iv=(if rc then .pointer sa else .pointer a:Value)/\BAt w2 (if rc then .cons bn ⟨b,3,none⟩ e else e) iv):=by
    cases rc
    · exact ⟨_,rfl,(uh HE).grown G2.out⟩
    · exact ⟨_,rfl,uh N2⟩
  cases rc <;> (
    simp only [Bool.false_eq_true,if_false,if_true] at key R1
    obtain ⟨iv,rfl,hiv⟩:=key.out
    have HIV:=bV hiv
    clear hiv key
    go_wp2_with fail
    refine (hD ((uh R1).kp (Kp.of_grown G2.out)) (uh HIV) (hY.grown (uh HJ) G2.out) (uh HP1)).mono ?_
    rintro e1 w3 (⟨rfl,hj3,hk3⟩ | ⟨rfl,q,hq,hx⟩)
    · have J3:=bV hj3
      have K3:Hid (Kp w w3):=(Kp.of_grown G2.out).trans hk3
      have N3:=bV ((uh N2).kp hk3)
      obtain ⟨g2,g3,g5,g6⟩:=za1 (K3.out _ _ _ _ B0.out (by decide))
      clear hj3 hk3
      go_wp2_with fail
      refine (hX ((uh R2).kp K3.out) (uh N3) (uh J3) (by rw [List.append_assoc]; exact uh HP)).mono ?_
      rintro e1 w4 h4
      obtain ⟨bv,rfl,h4⟩:=h4.one
      have X:Hid (EPost J Jx pre (L1++L2) w (.returned (.bool bv)) w4):=by
        rcases h4 with ⟨h0,h1,h2⟩ | ⟨h0,q,hq,hx⟩
        · exact .inl ⟨h0,by rw [<-List.append_assoc]; exact h1,K3.out.trans h2⟩
        · refine .inr ⟨h0,L1++q,?_,by rw [<-List.append_assoc]; exact hx⟩
          obtain ⟨r,hr⟩:=hq
          exact ⟨r,by rw [<-hr,List.append_assoc]⟩
      clear h4
      go_wp2_with fail
      go_ret
      exact X.out
    · have X:Hid (EPost J Jx pre (L1++L2) w (.returned (.bool false)) w3):=by
        refine .inr ⟨rfl,q,?_,hx⟩
        obtain ⟨r,hr⟩:=hq
        exact ⟨r++L2,by rw [<-hr,List.append_assoc]⟩
      clear hq hx
      go_wp2_with fail
      go_ret
      exact X.out)
theorem NL.kidE {t:Tw.T} (h:zph F c L0 J Jx t) {w:World} {hi:Nat} {v ev:Value} {e:Tw.BEn} {pre L:List NB} (hn:NL w hi t v e L) (he:BAt w e ev) (hp:pre++L <+: L0):(∃T n,v = .iface T (.pointer (some ⟨n,0,none⟩)))/\KidE F c J Jx ev v w pre L :=
 ⟨hn.iface,fun _ hk hj=>h (hn.kp hk) (he.kp hk) hj hp⟩
theorem ziu {pre L1 L2:List NB} (h:pre++(L1++L2) <+: L0):pre++L1 <+: L0:=by
 obtain ⟨r,hr⟩:=h
 exact ⟨L2++r,by rw [<-hr]; simp [List.append_assoc]⟩
theorem zc7 (hY:zmm F c L0 J Jx):∀t:Tw.T,zph F c L0 J Jx t
 | .name fr to x=>yap hY
 | .int fr to v=>by
  intro hn he hJ hp
  obtain ⟨⟨b,_,_,rfl,hb⟩,rfl⟩:=hn
  have:=zej hY (vs:=[]) (Ls:=[]) zgh ze1 zfx (zn6 _ b) he.ptr rfl (by simp) (by simp) hJ
  simpa using this
 | .truth fr to v=>by
  intro hn he hJ hp
  obtain ⟨⟨b,_,_,rfl,hb⟩,rfl⟩:=hn
  have:=zej hY (vs:=[]) (Ls:=[]) zeu zdu zem (zkd _ b) he.ptr rfl (by simp) (by simp) hJ
  simpa using this
 | .side fr to v=>by
  intro hn he hJ hp
  obtain ⟨⟨b,_,_,rfl,hb⟩,rfl⟩:=hn
  have:=zej hY (vs:=[]) (Ls:=[]) zfi zee ze9 (zl7 _ b) he.ptr rfl (by simp) (by simp) hJ
  simpa using this
 | .bracket fr to i=>by
  intro hn he hJ hp
  rename_i L
  obtain ⟨v1,⟨b,_,_,rfl,hb⟩,n1⟩:=hn
  have K1:=n1.kidE (zc7 hY i) he hp
  have:=zej hY (vs:=[v1]) (Ls:=[L]) zd2 zc6 zdn (zii K1.1 hb) he.ptr rfl (by simp) (by
   intro j a1 a2
   match j,a1 with
   | 0,_=>simpa [zew] using K1) hJ
  simpa using this
 | .fn fr to bn bat b=>ycp hY (zc7 hY b)
 | .lett fr to rc bn bat d b=>ycq hY (zc7 hY d) (zc7 hY b)
 | .pair fr to a c=>by
  intro hn he hJ hp
  obtain ⟨v1,v2,L1,L2,⟨b,_,_,rfl,hb⟩,n1,n2,rfl⟩:=hn
  have K1:=n1.kidE (zc7 hY a) he (ziu hp)
  have K2:=n2.kidE (zc7 hY c) he (by rw [<-List.append_assoc] at hp; exact hp)
  have:=zej hY (vs:=[v1,v2]) (Ls:=[L1,L2]) zfj zef zfa (zl8 K1.1 K2.1 hb) he.ptr rfl (by simp) (by
   intro j a1 a2
   match j,a1 with
   | 0,_=>simpa [zew] using K1
   | 1,_=>simpa [zew] using K2) hJ
  simpa using this
 | .call fr to a c=>by
  intro hn he hJ hp
  obtain ⟨v1,v2,L1,L2,⟨b,_,_,rfl,hb⟩,n1,n2,rfl⟩:=hn
  have K1:=n1.kidE (zc7 hY a) he (ziu hp)
  have K2:=n2.kidE (zc7 hY c) he (by rw [<-List.append_assoc] at hp; exact hp)
  have:=zej hY (vs:=[v1,v2]) (Ls:=[L1,L2]) zfk zeg zfb (zl9 K1.1 K2.1 hb) he.ptr rfl (by simp) (by
   intro j a1 a2
   match j,a1 with
   | 0,_=>simpa [zew] using K1
   | 1,_=>simpa [zew] using K2) hJ
  simpa using this
 | .binary fr to sg a c=>by
  intro hn he hJ hp
  obtain ⟨v1,v2,L1,L2,⟨b,_,_,rfl,hb⟩,n1,n2,rfl⟩:=hn
  have K1:=n1.kidE (zc7 hY a) he (ziu hp)
  have K2:=n2.kidE (zc7 hY c) he (by rw [<-List.append_assoc] at hp; exact hp)
  have:=zej hY (vs:=[v1,v2]) (Ls:=[L1,L2]) zeh zdi zd8 (zjd K1.1 K2.1 hb) he.ptr rfl (by simp) (by
   intro j a1 a2
   match j,a1 with
   | 0,_=>simpa [zew] using K1
   | 1,_=>simpa [zew] using K2) hJ
  simpa using this
 | .cond fr to c t f=>by
  intro hn he hJ hp
  obtain ⟨v1,v2,v3,L1,L2,L3,⟨b,_,_,rfl,hb⟩,n1,n2,n3,rfl⟩:=hn
  have hp1:=ziu hp
  have K1:=n1.kidE (zc7 hY c) he (ziu hp1)
  have K2:=n2.kidE (zc7 hY t) he (by have:=ziu hp; rw [<-List.append_assoc] at this; exact this)
  have K3:=n3.kidE (zc7 hY f) he (by rw [<-List.append_assoc] at hp; exact hp)
  have:=zej hY (vs:=[v1,v2,v3]) (Ls:=[L1,L2,L3]) zhh zf0 zg5 (zqa K1.1 K2.1 K3.1 hb) he.ptr rfl (by simp) (by
   intro j a1 a2
   match j,a1 with
   | 0,_=>simpa [zew] using K1
   | 1,_=>simpa [zew] using K2
   | 2,_=>simpa [zew,List.append_assoc] using K3) hJ
  simpa [List.append_assoc] using this
open Go.RowKit Go.Shelf
theorem zs8 {m m':Nat} {P:Program} {l:Nat} {args:Array Value} {W:World} {R:Ending->World->Prop} (h:YieldAt Fence.wide m P l args W R):YieldAt Fence.wide m' P l args W R:=by
 obtain ⟨fn,tmps,assign,body,hy,hR⟩:=h
 exact ⟨fn,tmps,assign,body,hy,hR.1,fun c cs _=>hR.2 c cs (room_wide _)⟩
structure zt2 (l:Nat) (L0:List NB) (J Jx:List NB->World->Prop):Prop where
 grown:∀ {s:List NB} {W W':World},J s W->W.grownBy W' none->J s W'
 yield:∀(pre:List NB) (x:NB) (W:World),J pre W->(pre ++ [x]) <+: L0->YieldAt Fence.wide 0 Tryz.prog l #[.pointer (some ⟨x.nb,0,none⟩),.pointer x.k] W fun e W' =>
  (e = .returned (.bool true)/\J (pre ++ [x]) W'/\Kp W W')\/(e = .returned (.bool false)/\Jx (pre ++ [x]) W')
abbrev yf3 (l c:Nat) (W:World):Prop:=W.heap[c]? = some (.cells #[zdb l] 182 (0,0))
theorem ye5 {l:Nat} {L0:List NB} {J Jx:List NB->World->Prop} (hY:zt2 l L0 J Jx) (c:Nat):zmm 85 c L0 (fun p W=>J p W/\yf3 l c W) Jx:=by
 refine ⟨fun args W=>rfl,fun {s W W'} ⟨hj,hc⟩ hg=>⟨hY.grown hj hg,zbG hg hc⟩,?_⟩
 rintro pre x w ev ⟨hJ,hc⟩ hp hb he
 obtain ⟨fn,tmps,assign,body,hy,hR⟩:=hY.yield pre x w hJ hp
 have c2:w.cell? ⟨x.nb,2,none⟩=some (ug x.tx):=zcR hb
 have c3:w.cell? ⟨c,0,none⟩=some (zdb l):=zcR hc
 have HE:=bV he
 have HC:=bV hc
 obtain ⟨a,rfl⟩:=he.ptr
 have HR:=bV hR
 have HF:Hid (Calls Tryz.prog 86 #[.pointer a,ug x.tx] w fun r w'=>(∃ok,r = .returned (.tuple #[.pointer x.k,.bool ok]))/\w=w'):=by
  unfold NB.k
  cases hl:x.e.look x.tx with
  | none=>exact (zma (uh HE) x.tx hl).mono (by rintro e w' ⟨rfl,rfl⟩; exact ⟨⟨_,rfl⟩,rfl⟩)
  | some k=>exact (zn7 (uh HE) x.tx hl).mono (by rintro e w' ⟨rfl,rfl⟩; exact ⟨⟨_,rfl⟩,rfl⟩)
 clear he hb hR hc
 refine (callsIn_wide (n:=1)).1 ?_
 refine callsIn_of_wp Tryz.func85 rfl trivial ?_
 simp only [Tryz.ntmps85,List.size_toArray,List.length_cons,List.length_nil,Nat.reduceAdd,Nat.reduceSub,Array.replicate_succ,Array.replicate_zero,List.push_toArray,List.append_toArray,List.nil_append,List.cons_append]
 gi_wp2_with ((try refine ⟨trivial,?_⟩); gi_at_call 86; refine (callsIn_wide.2 (uh HF)).mono ?_; rintro e1 w1 ⟨⟨ok,rfl⟩,rfl⟩)
 (try refine ⟨fun h=>(by cases h),?_⟩)
 refine (uh HR).mono ?_
 rintro e2 W2 (⟨rfl,hJ2,hk2⟩ | ⟨rfl,hx2⟩)
 ·gi_wp2
  go_ret
  exact .inl ⟨rfl,⟨hJ2,hk2 _ _ _ _ (uh HC) (by decide)⟩,hk2⟩
 ·gi_wp2
  go_ret
  exact .inr ⟨rfl,hx2⟩
theorem zxe {l:Nat} {L0:List NB} {J Jx:List NB->World->Prop} (hY:zt2 l L0 J Jx) {w:World} {hi Bt:Nat} {t:Tw.T} {tv:Value} (hB:w.heap[Bt]? = some (.cells #[tv] 68 (0,0))) (hn:NL w hi t tv .nil L0) (hJ:J [] w) :
  Calls Tryz.prog 83 #[zdb l,.pointer (some ⟨Bt,0,none⟩)] w fun e w'=>e = .returned (.tuple #[])/\(J L0 w'\/∃q,q <+: L0/\Jx q w'):=by
 have HN:=bV hn
 have HJ:=bV hJ
 obtain ⟨T0,n0,rfl⟩:=hn.iface
 have G:Hid (w.grownBy (w.alloc (.cells #[zdb l] 182)) none):=zwA _ _ none
 have c0:(w.alloc (.cells #[zdb l] 182)).cell? ⟨Bt,0,none⟩=some (.iface T0 (.pointer (some ⟨n0,0,none⟩))):=zcR (zbG G.out hB)
 clear hB hn hJ
 go_enter Tryz.func83,Tryz.ntmps83
 go_wp2_with fail
 refine (zc7 (ye5 hY w.heap.size) t ((uh HN).kp (Kp.of_grown G.out)) (show BAt _ .nil (.pointer none) from rfl) ⟨hY.grown (uh HJ) G.out,zad w _⟩ (by simp)).mono ?_
 rintro e1 w1 h1
 obtain ⟨bv,rfl,h1⟩:=h1.one
 have X:Hid (J L0 w1\/∃q,q <+: L0/\Jx q w1):=by
  rcases h1 with ⟨_,⟨h,_⟩,_⟩ | ⟨_,q,hq,h⟩
  ·exact .inl (by simpa using h)
  ·exact .inr ⟨q,hq,by simpa using h⟩
 clear h1
 go_wp2_with fail
 go_end0
 exact ⟨rfl,X.out⟩
abbrev NBIn (L0:List NB) := {x:NB // x∈L0}
abbrev encN (L0:List NB) (x:NBIn L0):Array Value:=#[.pointer (some ⟨x.1.nb,0,none⟩),.pointer x.1.k]
theorem zkf {w:World} {hi Bt n:Nat} {t:Tw.T} {tv:Value} {L0:List NB} (hB:w.heap[Bt]? = some (.cells #[tv] 68 (0,0))) (hn:NL w hi t tv .nil L0) :
  SeqStopsK Fence.wide n Tryz.prog 83 #[.pointer (some ⟨Bt,0,none⟩)] (encN L0) Kp (fun ys=>ys.map (·.1)=L0) (fun pre=>pre.map (·.1) <+: L0) L0.length w:=by
 intro l J Jx W hW hJ hJx hY h0
 have KW:Kp w W:=fun k c t m x _=>(hW.block k (zgE.1 x).1).trans x
 have Y:zt2 l L0 (fun pre W=>∃p:List (NBIn L0),p.map (·.1)=pre/\J p W) (fun pre W=>∃p:List (NBIn L0),p.map (·.1)=pre/\Jx p W):=by
  refine ⟨fun {s W W'} ⟨p,hp,hj⟩ hg=>⟨p,hp,hJ p W W' none hj hg (fun r e=>by cases e)⟩,?_⟩
  rintro pre x W1 ⟨p,rfl,hj⟩ hpre
  have hx:x∈L0:=hpre.subset (by simp)
  have hlen:p.length<L0.length:=by
   have:=hpre.length_le
   simp at this
   omega
  refine zs8 (YieldAt.mono (hY p ⟨x,hx⟩ W1 hj hlen) ?_)
  rintro e W' (⟨he,hj',hk⟩ | ⟨he,hj'⟩)
  ·exact .inl ⟨he,⟨p ++ [⟨x,hx⟩],by simp,hj'⟩,hk⟩
  ·exact .inr ⟨he,⟨p ++ [⟨x,hx⟩],by simp,hj'⟩⟩
 refine callsIn_wide.2 ((zxe Y (KW _ _ _ _ hB (by decide)) (hn.kp KW) ⟨[],rfl,h0⟩).mono ?_)
 rintro e W' ⟨rfl,⟨p,hp,hj⟩ | ⟨q,hq,p,rfl,hj⟩⟩
 ·exact ⟨⟨_,rfl⟩,.inl ⟨p,hp,hj⟩⟩
 ·exact ⟨⟨_,rfl⟩,.inr ⟨p,hq,hj⟩⟩
theorem zob (w:World) {tv:Value} (ht:∃T n,tv = .iface T (.pointer (some ⟨n,0,none⟩))) :
  Calls Tryz.prog 48 #[tv] w fun e w'=>e = .returned (.func (.func 83) #[] #[.pointer (some ⟨w.heap.size,0,none⟩)])/\w'=w.alloc (.cells #[tv] 68):=by
 obtain ⟨T0,n0,rfl⟩:=ht
 go_enter Tryz.func48,Tryz.ntmps48
 go_wp2_with fail
 go_ret
 exact ⟨rfl,rfl⟩
open Go.RowKit Go.Shelf
attribute [local go_sem] Oper.semAt_some
theorem zsd {n:Nat} {P:Program} {α : Type} {g:Operand} {p q d1 d2:Tmp} {assign body:Code} {Q:Exit->Act->World->Prop} {a:Act} {w:World}
  (h1:1<=n) {gf:Nat} {lb:Array Value} (hg:a.eval g = .func (.func gf) #[] lb) (eg:∀args w,(callFunc gf args).run P w = .ok (.enter gf args) w)
  {e1 e2 : α -> Value} {Kp:World->World->Prop} {S Sp:List α -> Prop} {N:Nat} {w0:World} (hseq:SeqStopsK Fence.wide (n-1) P gf lb (fun x => #[e1 x,e2 x]) Kp S Sp N w0)
  (hKt:∀ {A B C:World},Kp A B->Kp B C->Kp A C) (hKb:∀(W:World) (l:Nat) (o o':Obj),w.heap.size<=l->W.heap[l]? = some o->o.isCells=false->o.isWalk=false->Kp W (W.putObj l o')) (hb0:Below w0.heap.size w0 w)
  (I:List α -> World->Prop) (Ix:Code->List α -> World->Prop) (hI:OwnFrom w.heap.size I) (hIx:∀c,OwnFrom w.heap.size (Ix c)) (h0:I [] w)
  (hassign:∀(l:Nat) (x : α) (W:World) (K:Act->World->Prop),K {tmps:=(((a.tmps.setIfInBounds p (e1 x)).setIfInBounds q (e2 x)).setIfInBounds d1 (e1 x)).setIfInBounds d2 (e2 x),defers:=[]} W ->
   assign.wpIn (Fence.wide.inRound l) (n-1-1) P (Exit.then K (fun _ _ _=>False)) {tmps:=(a.tmps.setIfInBounds p (e1 x)).setIfInBounds q (e2 x),defers:=[]} W)
  (hbody:∀(l:Nat) (pre:List α) (x : α) (W:World),I pre W->pre.length<N->body.wpIn (Fence.wide.inRound l) (n-1-1) P (ownPostK Kp I Ix (pre ++ [x]) W) {tmps:=(((a.tmps.setIfInBounds p (e1 x)).setIfInBounds q (e2 x)).setIfInBounds d1 (e1 x)).setIfInBounds d2 (e2 x),defers:=[]} W)
  (hdone:∀(D:Nat) (xs:List α) (W:World),w.heap.size<=D->S xs->I xs W->W.heap[D]? = some (.deferred (some []))->Q .normal {a with defers := {target:=.collected D,args:=#[]}::a.defers} W)
  (hstop:∀(D:Nat) (c:Code) (pre:List α) (W:World),w.heap.size<=D->Sp pre->Ix c pre W->W.heap[D]? = some (.deferred (some []))->c.wpIn Fence.wide n P Q {a with defers := {target:=.collected D,args:=#[]}::a.defers} W) :
  (Code.rangeFunc g #[p,q] assign body).wpIn Fence.wide n P Q a w :=
 wpIn_rangeFunc_ownF rfl h1 hg trivial eg hseq hKt hKb hb0 (fun _=>rfl) I Ix hI hIx h0 (fun x => {tmps:=(((a.tmps.setIfInBounds p (e1 x)).setIfInBounds q (e2 x)).setIfInBounds d1 (e1 x)).setIfInBounds d2 (e2 x),defers:=[]})
  (fun l x W K hK=>by simpa using hassign l x W K hK) hbody hdone hstop
theorem zlj {w:World} (W:World) (l:Nat) (o o':Obj) (_:w.heap.size<=l) (h:W.heap[l]? = some o) (hc:o.isCells=false) (_:o.isWalk=false):Kp W (W.putObj l o'):=by
 intro k c t m x _
 have:l≠k:=by
  intro e
  subst e
  rw [h] at x
  cases x
  simp [Obj.isCells] at hc
 rw [World.putObj,Array.getElem?_setIfInBounds_ne this]
 exact x
def zrh (S:List TypeId) (t:Tw.T) (shown:List UInt8):Prop:=∀(w:World) (hi:Nat) (tv:Value),Rep w 0 hi t tv->Calls Tryz.prog 34 #[tv] w fun e w'=>e = .returned (.tuple #[ug shown,.bool true])/\TK w.heap.size S w w'
theorem zik {l:List UInt8}:∀(fuel k:Nat) (acc ts:List Tw.Tok),Tw.zcs l fuel k acc = .ok ts->acc.length<=k->k<=l.length->0<ts.length/\ts.length<=l.length+1
 | 0,_,_,_,h,_,_=>by simp [Tw.zcs] at h
 | n+1,k,acc,ts,h,ha,hk=>by
  rw [Tw.zcs] at h
  split at h
  ·rename_i hlt
   have hl:0<(l.drop k).length:=by simp; omega
   have g1:=Tw.zex (l.drop k) hl
   have f1:=Tw.zde (l.drop k) hl
   simp only [List.length_drop] at g1 f1
   split at h
   ·exact zik n _ _ _ h (by omega) (by omega)
   ·split at h
    ·cases h
    ·rename_i h0
     exact zik n _ _ _ h (by simp; omega) (by omega)
  ·cases h
   simp
   omega
theorem zoc {l:List UInt8} {ts:List Tw.Tok} (h:Tw.split l = .ok ts) (hl:l.length<=300):0<ts.length/\ts.length<=301:=by
 have:=zik _ _ _ _ h (by simp) (by omega)
 omega
theorem zdo {w w':World} (h:Below w.heap.size w w'):w.grownBy w' none:=⟨h.os,h.tape,h.output,h.size,fun k hk _=>h.block k hk⟩
theorem Rep.kp {w w':World} {lo hi:Nat} (hk:Kp w w'):∀ {t:Tw.T} {v:Value},Rep w lo hi t v->Rep w' lo hi t v
 | .name ..,_,h=>nodeAt.kp h hk (by decide)
 | .int ..,_,h=>nodeAt.kp h hk (by decide)
 | .truth ..,_,h=>nodeAt.kp h hk (by decide)
 | .side ..,_,h=>nodeAt.kp h hk (by decide)
 | .bracket ..,_,⟨v1,h,r1⟩=>⟨v1,h.kp hk (by decide),Rep.kp hk r1⟩
 | .pair ..,_,⟨v1,v2,h,r1,r2⟩=>⟨v1,v2,h.kp hk (by decide),Rep.kp hk r1,Rep.kp hk r2⟩
 | .call ..,_,⟨v1,v2,h,r1,r2⟩=>⟨v1,v2,h.kp hk (by decide),Rep.kp hk r1,Rep.kp hk r2⟩
 | .binary ..,_,⟨v1,v2,h,r1,r2⟩=>⟨v1,v2,h.kp hk (by decide),Rep.kp hk r1,Rep.kp hk r2⟩
 | .cond ..,_,⟨v1,v2,v3,h,r1,r2,r3⟩=>⟨v1,v2,v3,h.kp hk (by decide),Rep.kp hk r1,Rep.kp hk r2,Rep.kp hk r3⟩
 | .fn ..,_,⟨v1,h,r1⟩=>⟨v1,h.kp hk (by decide),Rep.kp hk r1⟩
 | .lett ..,_,⟨v1,v2,h,r1,r2⟩=>⟨v1,v2,h.kp hk (by decide),Rep.kp hk r1,Rep.kp hk r2⟩
theorem TK.kp {B:Nat} {S:List TypeId} {w w':World} (h:TK B S w w') (hS:zh9.all (fun t => !S.contains t)=true):Kp w w':=fun _ _ t _ x y =>
 h.cells x (by have:=List.all_eq_true.1 hS t (by simpa using y); simpa using this)
theorem zag {w:World} {b:Nat} {x:Value} {t:TypeId} (h:w.heap[b]? = some (.cells #[x] t (0,0))):w.cell? ⟨b,0,none⟩=some x/\w.frozen? ⟨b,0,none⟩=false:=by
 refine ⟨?_,frozen_of_row _ _ _ _ _ h⟩
 rw [cell_of_row w b _ _ _ _ h]
 rfl
def zri (t:Tw.T):Prop:=∀(w:World) (hi:Nat) (tv:Value) (L:List NB),NL w hi t tv .nil L->∀x∈L,∃a,x.k=some a
theorem yaq (hIB:Said.IndexByte) (hPI:Said.ParseInt) {S:List TypeId} {t:Tw.T} {shown:List UInt8} (hOf:zrh S t shown) (s:ByteArray) (hs:s.size<=300) {ts:List Tw.Tok} (h1:Tw.split s.data.toList = .ok ts) {fuel:Nat} (h2:Tw.zb9 s.data.toList ts fuel=some (.ok t))
  (h3:zri t) {k:Nat} (h4:Tw.zaj t .nil=some k) (h5:k<=2000) (hS:(zh9 ++ [27,3]).all (fun t => !S.contains t)=true) (w:World) :
  Calls Tryz.prog 32 #[.string s] w fun e w'=>∃tv,e = .returned (.tuple #[tv,.int .i64 0,.int .i64 0])/\Rep w' w.heap.size w'.heap.size t tv/\TK w.heap.size S w w':=by
 refine (callsIn_wide (n:=3)).1 ?_
 refine callsIn_of_wp_marks Tryz.func32 rfl trivial ?_
 simp only [Tryz.ntmps32,List.size_toArray,List.length_cons,List.length_nil,Nat.reduceAdd,Nat.reduceSub,Array.replicate_succ,Array.replicate_zero,List.push_toArray,List.append_toArray,List.nil_append,List.cons_append]
 have HOF:=bV hOf
 have H3:=bV h3
 have H4:=bV h4
 obtain ⟨W0,hW0⟩:∃W0,((w.alloc (.cells #[.nilIface] 68)).alloc (.cells #[.int .i64 0] 27)).alloc (.cells #[.int .i64 0] 3)=W0:=⟨_,rfl⟩
 have G0:Hid (w.grownBy W0 none):=by rw [<-hW0]; exact zae (zae (zae (zab _) _) _) _
 have z0:W0.heap.size=w.heap.size+3:=by rw [<-hW0]; simp
 have C0:Hid (W0.heap[w.heap.size]? = some (.cells #[.nilIface] 68 (0,0))/\W0.heap[w.heap.size+1]? = some (.cells #[.int .i64 0] 27 (0,0))/\W0.heap[w.heap.size+2]? = some (.cells #[.int .i64 0] 3 (0,0))):=by
  rw [<-hW0]
  refine ⟨?_,?_,?_⟩
  ·exact (Below.heap_alloc _ _ _ (by simp; omega)).trans ((Below.heap_alloc _ _ _ (by simp)).trans (zad w _))
  ·have:=zad (w.alloc (.cells #[.nilIface] 68)) (.cells #[.int .i64 0] 27)
   rw [World.size_alloc] at this
   exact (Below.heap_alloc _ _ _ (by simp)).trans this
  ·have:=zad ((w.alloc (.cells #[.nilIface] 68)).alloc (.cells #[.int .i64 0] 27)) (.cells #[.int .i64 0] 3)
   rw [World.size_alloc,World.size_alloc] at this
   exact this
 gi_wp2_with fail
 refine ⟨trivial,?_⟩
 refine (callsIn_wide.2 (zk2 hIB s W0 hs)).mono ?_
 rintro e1 w1 ⟨hB1,hm⟩
 rw [h1] at hm
 obtain ⟨v,rfl,ho⟩:=hm
 have hts:0<ts.length/\ts.length<=301:=zoc h1 (by simpa using hs)
 obtain ⟨gt,cap,cur,rfl,hgt,hTR⟩:=TokRow.zs2 ho hts.1 hts.2
 have B1:=bV hB1
 have T1:=bV hTR
 clear hB1 ho hW0 hTR
 gi_wp2_with fail
 refine ⟨trivial,?_⟩
 refine (callsIn_wide.2 (zpz hPI (uh T1) s hs h2)).mono ?_
 rintro e1 w2 ⟨hg,tv,rfl,hR⟩
 have G2:=bV hg
 have R2:=bV hR
 obtain ⟨PT,nt,rfl⟩:=hR.iface
 clear hg hR T1
 gi_wp2_with fail
 refine ⟨trivial,?_⟩
 refine (callsIn_wide.2 (zob w2 ⟨PT,nt,rfl⟩)).mono ?_
 rintro e1 w3 ⟨rfl,rfl⟩
 gi_wp2_with fail
 obtain ⟨L0,hL0⟩:=NL.of_rep .nil ((uh R2).wide (Nat.zero_le _) (znL _))
 have hnl:=NL.kp (Kp.of_grown (zwA w2 (.cells #[.iface PT (.pointer (some ⟨nt,0,none⟩))] 68) none)) hL0
 have hbound:=uh H3 _ _ _ _ hL0
 have hne:=zad w2 (.cells #[.iface PT (.pointer (some ⟨nt,0,none⟩))] 68)
 refine zsd (p:=34) (q:=35) (d1:=9) (d2:=10) (by omega) rfl (enters_of Tryz.func83 (by kernel_rfl) rfl) (zkf hne hnl) (fun h k=>h.trans k) zlj (Below.refl _ _)
  (fun _ W=>Below (w2.heap.size+1) (w2.alloc (.cells #[.iface PT (.pointer (some ⟨nt,0,none⟩))] 68)) W) (fun _ _ _=>False) (ownFrom_below (by simp) (by simp)) (fun _ _ _ _ _ hs _ _=>hs) (Below.refl _ _) ?assign ?body ?done ?stop
 case assign =>
  intro l x W K hK
  simp only [zsA,zsZ,zsS] at hK ⊢
  gi_wp2
  exact hK
 case body =>
  rintro l pre ⟨x,hx⟩ W hB hlt
  obtain ⟨a,ha⟩:=hbound x hx
  simp only [zsA,zsZ,zsS,ha]
  gi_wp2
  exact ⟨KeepsOthers.refl _,Kp.refl _,hB⟩
 case stop =>
  rintro D c pre W _ _ h _
  exact h.elim
 case done =>
  rintro D xs W hD hxs hB hK
  have z1:=B1.out.size
  have z2:=G2.out.size
  have z3:=hB.size
  simp only [World.size_alloc] at z3 hD
  have RW:Hid (Rep W w1.heap.size w2.heap.size t (.iface PT (.pointer (some ⟨nt,0,none⟩)))):=(uh R2).kept (fun b _ h2 _=>by rw [hB.block b (by omega)]; exact Below.heap_alloc w2 _ b h2) (znL _) (znL _)
  have key:∀ {b:Nat} {o:Obj},W0.heap[b]? = some o->W.heap[b]? = some o:=fun {b o} h=>by
   have hb:=(zgE.1 h).1
   rw [hB.block b (by omega),Below.heap_alloc w2 _ b (by omega),G2.out.block b (by omega) (by simp),B1.out.block b hb]
   exact h
  have CW:Hid (W.heap[w.heap.size]? = some (.cells #[.nilIface] 68 (0,0))/\W.heap[w.heap.size+1]? = some (.cells #[.int .i64 0] 27 (0,0))/\W.heap[w.heap.size+2]? = some (.cells #[.int .i64 0] 3 (0,0))) :=
   ⟨key C0.out.1,key C0.out.2.1,key C0.out.2.2⟩
  have KW:Hid (TK w.heap.size S w W):=((TK.of_grown _ S G0.out).trans (((TK.of_grown _ S (zdo B1.out)).trans (TK.of_grown _ S G2.out)).trans (TK.of_grown _ S (zaa (zwA _ _ none) (zdo (by rw [World.size_alloc]; exact hB))))))
  have HK:=bV hK
  clear hK hB hxs key C0 B1 G2 R2
  gi_wp2_with fail
  refine ⟨trivial,?_⟩
  refine (callsIn_wide.2 (zqc ((uh RW).wide (Nat.zero_le _) (znL _)) (uh H4))).mono ?_
  rintro e1 w4 ⟨rfl,hg⟩
  have zW:=hg.size
  have R4:=bV ((uh RW).grown hg (znL _) (znL _))
  have K4:Hid (TK w.heap.size S w w4):=KW.out.trans (TK.of_grown _ S hg)
  have key:∀ {b:Nat} {o:Obj},W.heap[b]? = some o->w4.heap[b]? = some o:=fun {b o} h=>(hg.block b (zgE.1 h).1 (by simp)).trans h
  have C4:=bV (And.intro (key CW.out.1) (And.intro (key CW.out.2.1) (key CW.out.2.2)))
  have D4:=bV (key (uh HK))
  have hk2:¬(2000:Int)<k:=by omega
  clear hg key CW KW RW HK
  gi_wp2_with fail
  refine ⟨trivial,?_⟩
  refine (callsIn_wide.2 (uh HOF _ _ _ ((uh R4).wide (Nat.zero_le _) (znL _)))).mono ?_
  rintro e1 w5 ⟨rfl,hk⟩
  have hS1:zh9.all (fun t => !S.contains t)=true:=by
   rw [List.all_append] at hS
   exact (Bool.and_eq_true_iff.1 hS).1
  have hS2:∀t ∈ [68,27,3],S.contains t=false:=by
   intro t ht
   have:=List.all_eq_true.1 hS t (by
    simp only [zmC,List.not_mem_nil,or_false] at ht
    rcases ht with rfl | rfl | rfl <;> decide)
   simpa using this
  have z5:=hk.size
  have R5:=bV ((uh R4).kp (hk.kp hS1))
  have K5:Hid (TK w.heap.size S w w5):=K4.out.trans (hk.base (by omega))
  have a1:=hk.cells C4.out.1 (hS2 _ (by simp))
  have a2:=hk.cells C4.out.2.1 (hS2 _ (by simp))
  have a3:=hk.cells C4.out.2.2 (hS2 _ (by simp))
  have D5:=bV (hk.other (uh D4) (by simp))
  obtain ⟨b1,f1⟩:=zag a1
  obtain ⟨b2,f2⟩:=zag a2
  obtain ⟨b3,f3⟩:=zag a3
  clear hk K4 C4 D4 R4
  gi_wp2_with fail
  obtain ⟨W6,hW6⟩:∃W6,((w5.setCell ⟨w.heap.size,0,none⟩ (.iface PT (.pointer (some ⟨nt,0,none⟩)))).setCell ⟨w.heap.size+1,0,none⟩ (.int .i64 0)).setCell ⟨w.heap.size+1+1,0,none⟩ (.int .i64 0)=W6:=⟨_,rfl⟩
  rw [hW6]
  have other:∀b,b≠w.heap.size->b≠w.heap.size+1->b≠w.heap.size+2->W6.heap[b]? = w5.heap[b]? := fun b n1 n2 n3=>by
   rw [<-hW6,heap_setCell_other _ _ _ _ (by simp; omega),heap_setCell_other _ _ _ _ (by simp; omega),heap_setCell_other _ _ _ _ (by simp; omega)]
  have r1:W6.heap[w.heap.size]? = some (.cells #[.iface PT (.pointer (some ⟨nt,0,none⟩))] 68 (0,0)):=by
   rw [<-hW6,heap_setCell_other _ _ _ _ (by simp; omega),heap_setCell_other _ _ _ _ (by simp),heap_setCell_same _ _ _ _ _ _ a1]; rfl
  have r2:W6.heap[w.heap.size+1]? = some (.cells #[.int .i64 0] 27 (0,0)):=by
   rw [<-hW6,heap_setCell_other _ _ _ _ (by simp),heap_setCell_same _ _ _ _ _ _ (by rw [heap_setCell_other _ _ _ _ (by simp)]; exact a2)]; rfl
  have r3:W6.heap[w.heap.size+1+1]? = some (.cells #[.int .i64 0] 3 (0,0)):=by
   rw [<-hW6,heap_setCell_same _ _ _ _ _ _ (by rw [heap_setCell_other _ _ _ _ (by simp),heap_setCell_other _ _ _ _ (by simp; omega)]; exact a3)]; rfl
  have hKD:W6.heap[D]? = some (.deferred (some [])):=by rw [other D (by omega) (by omega) (by omega)]; exact uh D5
  have hsz:W6.heap.size=w5.heap.size:=by rw [<-hW6]; simp
  have hos:W6.os=w5.os/\W6.tape=w5.tape/\W6.output=w5.output:=by rw [<-hW6]; exact ⟨rfl,rfl,rfl⟩
  clear hW6
  refine ⟨by simp,.inl ⟨_,_,rfl,run_takeDeferred hKD,?_⟩⟩
  have put:∀b,b≠D->(W6.putObj D (.deferred none)).heap[b]? = W6.heap[b]? := fun b hb=>by
   rw [World.putObj,Array.getElem?_setIfInBounds_ne (Ne.symm hb)]
  obtain ⟨e1,_⟩:=zag ((put _ (by omega)).trans r1)
  obtain ⟨e2,_⟩:=zag ((put _ (by omega)).trans r2)
  obtain ⟨e3,_⟩:=zag ((put _ (by omega)).trans r3)
  have hnD:∀b,b<w2.heap.size->b≠D:=fun b hb=>by omega
  refine ⟨.tuple #[.iface PT (.pointer (some ⟨nt,0,none⟩)),.int .i64 0,.int .i64 0],by simp [results,Tryz.results32,go_sem,e1,e2,e3],_,rfl,?_,?_⟩
  ·refine (uh R5).kept (fun b hb1 hb2 _ => ?_) (by omega) (by simp [World.putObj]; omega)
   rw [put b (hnD b hb2),other b (by omega) (by omega) (by omega)]
  ·have K:=K5.out
   refine ⟨fun {k} x y=>by rw [put k (by omega),other k (by omega) (by omega) (by omega)]; exact K.low x y,by rw [<-K.os,<-hos.1]; rfl,by rw [<-K.tape,<-hos.2.1]; rfl,by rw [<-K.output,<-hos.2.2]; rfl,by have:=K.size; simp [World.putObj]; omega,fun {k c t m} x y => ?_,fun {k o} x y => ?_⟩
   ·have hk:=(zgE.1 x).1
    rw [put k (by omega),other k (by omega) (by omega) (by omega)]
    exact K.cells x y
   ·have hk:=(zgE.1 x).1
    rw [put k (by omega),other k (by omega) (by omega) (by omega)]
    exact K.other x y
open Go.RowKit Go.Shelf
attribute [local go_sem] Oper.semAt_some
def Res3 (w W:World) (b:Nat) (x y z:Value):Prop:=W.heap[b]? = some (.cells #[x] 68 (0,0))/\W.heap[b+1]? = some (.cells #[y] 27 (0,0))/\W.heap[b+2]? = some (.cells #[z] 3 (0,0))/\b=w.heap.size
theorem zqf (w:World):∃W0,((w.alloc (.cells #[.nilIface] 68)).alloc (.cells #[.int .i64 0] 27)).alloc (.cells #[.int .i64 0] 3)=W0/\w.grownBy W0 none/\W0.heap.size=w.heap.size+3/\Res3 w W0 w.heap.size .nilIface (.int .i64 0) (.int .i64 0):=by
 refine ⟨_,rfl,zae (zae (zae (zab _) _) _) _,by simp,?_,?_,?_,rfl⟩
 ·exact (Below.heap_alloc _ _ _ (by simp; omega)).trans ((Below.heap_alloc _ _ _ (by simp)).trans (zad w _))
 ·have:=zad (w.alloc (.cells #[.nilIface] 68)) (.cells #[.int .i64 0] 27)
  rw [World.size_alloc] at this
  exact (Below.heap_alloc _ _ _ (by simp)).trans this
 ·have:=zad ((w.alloc (.cells #[.nilIface] 68)).alloc (.cells #[.int .i64 0] 27)) (.cells #[.int .i64 0] 3)
  rw [World.size_alloc,World.size_alloc] at this
  exact this
theorem Res3.kept {w W W':World} {b:Nat} {x y z:Value} (h:Res3 w W b x y z) (hk:∀ {k:Nat} {o:Obj},k<b+3->W.heap[k]? = some o->W'.heap[k]? = some o):Res3 w W' b x y z :=
 ⟨hk (by omega) h.1,hk (by omega) h.2.1,hk (by omega) h.2.2.1,h.2.2.2⟩
theorem Res3.set {w W:World} {b:Nat} {x y z:Value} (h:Res3 w W b x y z) (x' y' z':Value):∃W6,((W.setCell ⟨b,0,none⟩ x').setCell ⟨b+1,0,none⟩ y').setCell ⟨b+1+1,0,none⟩ z'=W6/\Res3 w W6 b x' y' z'/\(∀k,k≠b->k≠b+1->k≠b+2->W6.heap[k]? = W.heap[k]?)/\W6.heap.size=W.heap.size/\W6.os=W.os/\W6.tape=W.tape/\W6.output=W.output:=by
 refine ⟨_,rfl,⟨?_,?_,?_,h.2.2.2⟩,fun k n1 n2 n3 => ?_,by simp,rfl,rfl,rfl⟩
 ·rw [heap_setCell_other _ _ _ _ (by simp; omega),heap_setCell_other _ _ _ _ (by simp),heap_setCell_same _ _ _ _ _ _ h.1]; rfl
 ·rw [heap_setCell_other _ _ _ _ (by simp),heap_setCell_same _ _ _ _ _ _ (by rw [heap_setCell_other _ _ _ _ (by simp)]; exact h.2.1)]; rfl
 ·show (World.setCell _ ⟨b+1+1,0,none⟩ _).heap[b+1+1]? = _
  rw [heap_setCell_same _ _ _ _ _ _ (by rw [heap_setCell_other _ _ _ _ (by simp),heap_setCell_other _ _ _ _ (by simp; omega)]; exact h.2.2.1)]; rfl
 ·rw [heap_setCell_other _ _ _ _ (by simp; omega),heap_setCell_other _ _ _ _ (by simp; omega),heap_setCell_other _ _ _ _ (by simp; omega)]
theorem Res3.cells {w W:World} {b:Nat} {x y z:Value} (h:Res3 w W b x y z):(W.cell? ⟨b,0,none⟩=some x/\W.frozen? ⟨b,0,none⟩=false)/\(W.cell? ⟨b+1,0,none⟩=some y/\W.frozen? ⟨b+1,0,none⟩=false)/\W.cell? ⟨b+1+1,0,none⟩=some z/\W.frozen? ⟨b+1+1,0,none⟩=false :=
 ⟨zag h.1,zag h.2.1,zag h.2.2.1⟩
theorem Res3.grown {w W W6:World} {b:Nat} {x y z:Value} (h:Res3 w W b x y z) (hg:w.grownBy W none) (ho:∀k,k≠b->k≠b+1->k≠b+2->W6.heap[k]? = W.heap[k]?) (hs:W6.heap.size=W.heap.size) (h1:W6.os=W.os) (h2:W6.tape=W.tape) (h3:W6.output=W.output):w.grownBy W6 none :=
 ⟨h1.trans hg.os,h2.trans hg.tape,h3.trans hg.output,by rw [hs]; exact hg.size,fun k hk hn=>by have:=h.2.2.2; rw [ho k (by omega) (by omega) (by omega)]; exact hg.block k hk hn⟩
theorem zxf (hIB:Said.IndexByte) (s:ByteArray) (hs:s.size<=300) {p:Nat} (h1:Tw.split s.data.toList = .error p) (w:World) :
  Calls Tryz.prog 32 #[.string s] w fun e w'=>e = .returned (.tuple #[.nilIface,.int .i64 2,.int .i64 p])/\w.grownBy w' none:=by
 refine (callsIn_wide (n:=3)).1 ?_
 refine callsIn_of_wp_marks Tryz.func32 rfl trivial ?_
 simp only [Tryz.ntmps32,List.size_toArray,List.length_cons,List.length_nil,Nat.reduceAdd,Nat.reduceSub,Array.replicate_succ,Array.replicate_zero,List.push_toArray,List.append_toArray,List.nil_append,List.cons_append]
 obtain ⟨W0,hW0,hg0,z0,hC0⟩:=zqf w
 have G0:=bV hg0
 have C0:=bV hC0
 clear hg0 hC0
 gi_wp2_with fail
 refine ⟨trivial,?_⟩
 refine (callsIn_wide.2 (zk2 hIB s W0 hs)).mono ?_
 rintro e1 w1 ⟨hB1,hm⟩
 rw [h1] at hm
 dsimp only at hm
 subst hm
 have G1:Hid (w.grownBy w1 none):=zaa G0.out (zdo hB1)
 have key:∀ {b:Nat} {o:Obj},W0.heap[b]? = some o->w1.heap[b]? = some o:=fun {b o} h=>by
  rw [hB1.block b (zgE.1 h).1]; exact h
 have C1:=bV ((uh C0).kept (fun _ h=>key h))
 obtain ⟨⟨b1,f1⟩,⟨b2,f2⟩,b3,f3⟩:=(uh C1).cells
 clear hB1 key C0 hW0
 gi_wp2_with fail
 obtain ⟨W6,hW6,hC6,ho,hsz,o1,o2,o3⟩:=(uh C1).set .nilIface (.int .i64 2) (.int .i64 p)
 rw [hW6]
 obtain ⟨⟨e1,_⟩,⟨e2,_⟩,e3,_⟩:=hC6.cells
 refine ⟨.tuple #[.nilIface,.int .i64 2,.int .i64 p],by simp [results,Tryz.results32,go_sem,e1,e2,e3],rfl,?_⟩
 exact (uh C1).grown (uh G1) ho hsz o1 o2 o3
theorem yar (hIB:Said.IndexByte) (hPI:Said.ParseInt) (s:ByteArray) (hs:s.size<=300) {ts:List Tw.Tok} (h1:Tw.split s.data.toList = .ok ts) {fuel p:Nat} (h2:Tw.zb9 s.data.toList ts fuel=some (.error p)) (w:World) :
  Calls Tryz.prog 32 #[.string s] w fun e w'=>e = .returned (.tuple #[.nilIface,.int .i64 3,.int .i64 p])/\w.grownBy w' none:=by
 refine (callsIn_wide (n:=3)).1 ?_
 refine callsIn_of_wp_marks Tryz.func32 rfl trivial ?_
 simp only [Tryz.ntmps32,List.size_toArray,List.length_cons,List.length_nil,Nat.reduceAdd,Nat.reduceSub,Array.replicate_succ,Array.replicate_zero,List.push_toArray,List.append_toArray,List.nil_append,List.cons_append]
 obtain ⟨W0,hW0,hg0,z0,hC0⟩:=zqf w
 have G0:=bV hg0
 have C0:=bV hC0
 clear hg0 hC0
 gi_wp2_with fail
 refine ⟨trivial,?_⟩
 refine (callsIn_wide.2 (zk2 hIB s W0 hs)).mono ?_
 rintro e1 w1 ⟨hB1,hm⟩
 rw [h1] at hm
 obtain ⟨v,rfl,ho⟩:=hm
 have hts:0<ts.length/\ts.length<=301:=zoc h1 (by simpa using hs)
 obtain ⟨gt,cap,cur,rfl,hgt,hTR⟩:=TokRow.zs2 ho hts.1 hts.2
 have B1:=bV hB1
 have T1:=bV hTR
 clear hB1 ho hW0 hTR
 gi_wp2_with fail
 refine ⟨trivial,?_⟩
 refine (callsIn_wide.2 (zpz hPI (uh T1) s hs h2)).mono ?_
 rintro e1 w2 ⟨hg,rfl⟩
 have G2:Hid (w.grownBy w2 none):=zaa G0.out (zaa (zdo B1.out) hg)
 have key:∀ {b:Nat} {o:Obj},W0.heap[b]? = some o->w2.heap[b]? = some o:=fun {b o} h=>by
  have hb:=(zgE.1 h).1
  rw [hg.block b (by have:=B1.out.size; omega) (by simp),B1.out.block b hb]; exact h
 have C1:=bV ((uh C0).kept (fun _ h=>key h))
 obtain ⟨⟨b1,f1⟩,⟨b2,f2⟩,b3,f3⟩:=(uh C1).cells
 clear key C0 hg T1 B1
 gi_wp2_with fail
 obtain ⟨W6,hW6,hC6,ho,hsz,o1,o2,o3⟩:=(uh C1).set .nilIface (.int .i64 3) (.int .i64 p)
 rw [hW6]
 obtain ⟨⟨e1,_⟩,⟨e2,_⟩,e3,_⟩:=hC6.cells
 refine ⟨.tuple #[.nilIface,.int .i64 3,.int .i64 p],by simp [results,Tryz.results32,go_sem,e1,e2,e3],rfl,?_⟩
 exact (uh C1).grown (uh G2) ho hsz o1 o2 o3
end Go.Proofs.YtckhafpejefbbaaGreatDoor
namespace Go.Proofs.YtckhafpejefbbaaGreatDoor.Tw
open Go
def T.freeS:T->List (List UInt8)->Option Nat
 | .name fr _ x,env=>if env.contains x then none else some fr
 | .int ..,_=>none
 | .truth ..,_=>none
 | .side ..,_=>none
 | .bracket _ _ i,env=>i.freeS env
 | .pair _ _ l r,env=>(l.freeS env).or (r.freeS env)
 | .call _ _ l r,env=>(l.freeS env).or (r.freeS env)
 | .binary _ _ _ l r,env=>(l.freeS env).or (r.freeS env)
 | .cond _ _ c t f,env=>((c.freeS env).or (t.freeS env)).or (f.freeS env)
 | .fn _ _ bn _ b,env=>b.freeS (bn::env)
 | .lett _ _ rc bn _ d b,env=>(d.freeS (if rc then bn::env else env)).or (b.freeS (bn::env))
inductive RR where
 | fault (k:Nat) (p:Nat)
 | fine (t:T) (shown:List UInt8)
def zgu (fuel:Nat) (t:T):Option RR :=
 match t.freeS [] with
 | some p=>some (.fault 4 p)
 | none=>(zaj t .nil).bind fun k=>if 2000<k then some (.fault 10 0) else (ofS fuel t).bind fun o =>
  match o with
  | none=>some (.fault 5 0)
  | some sh=>some (.fine t sh)
def zk0 (fp fo:Nat) (l:List UInt8):Option RR :=
 match split l with
 | .error p=>some (.fault 2 p)
 | .ok ts=>(zb9 l ts fp).bind fun r =>
  match r with
  | .error p=>some (.fault 3 p)
  | .ok t=>zgu fo t
open Go Go.RowKit
def numT (vars:List Nat) (r:Nat):Nat×List Nat :=
 match idxS r vars 0 with
 | some i=>(i,vars)
 | none=>(vars.length,vars ++ [r])
def Ty.tsort:Ty->Int
 | .var _=>0
 | .int=>1
 | .bool=>2
 | .fn .. => 3
 | .pair .. => 4
def brk (b:Bool) (w:List Nat×List UInt8->List Nat×List UInt8) (s:List Nat×List UInt8):List Nat×List UInt8 :=
 if b then ((w (s.1,putS 400 s.2 [40])).1,putS 400 (w (s.1,putS 400 s.2 [40])).2 [41]) else w s
def wrT:Ty->List Nat×List UInt8->List Nat×List UInt8
 | .var p,s=>if 400<s.2.length then s else ((numT s.1 p).2,putS 400 s.2 (zh8 (numT s.1 p).1))
 | .int,s=>if 400<s.2.length then s else (s.1,putS 400 s.2 [105,110,116])
 | .bool,s=>if 400<s.2.length then s else (s.1,putS 400 s.2 [98,111,111,108])
 | .fn a b,s=>if 400<s.2.length then s else wrT b ((brk (a.tsort==3) (wrT a) s).1,putS 400 (brk (a.tsort==3) (wrT a) s).2 [32,45,62,32])
 | .pair a b,s=>if 400<s.2.length then s else brk (b.tsort==3||b.tsort==4) (wrT b) ((brk (a.tsort==3||a.tsort==4) (wrT a) s).1,putS 400 (brk (a.tsort==3||a.tsort==4) (wrT a) s).2 [32,42,32])
def Ty.shown (a:Ty):List UInt8:=zju 400 (wrT a ([],[])).2
theorem zhk (lim:Nat) (acc b:List UInt8):acc.length<=(putS lim acc b).length/\(¬lim<acc.length->(putS lim acc b).length=acc.length+b.length):=by
 unfold putS
 split
 ·exact ⟨znL _,fun h=>absurd (by assumption) h⟩
 ·exact ⟨by simp,fun _=>by simp⟩
theorem FinT.sortAt {st:SS} {r:Nat} {a:Ty} (h:FinT st r a):∃p x,RootOf st r p/\st.shs[p]? = some x/\x.sort=a.tsort:=by
 cases h with
 | var hr hx hs=>exact ⟨_,_,hr,hx,hs⟩
 | int hr hx hs=>exact ⟨_,_,hr,hx,hs⟩
 | bool hr hx hs=>exact ⟨_,_,hr,hx,hs⟩
 | fn hr hx hs=>exact ⟨_,_,hr,hx,hs⟩
 | pair hr hx hs=>exact ⟨_,_,hr,hx,hs⟩
theorem FinT.lt {st:SS} {r:Nat} {a:Ty} (h:FinT st r a):r<st.shs.length:=by
 obtain ⟨p,x,h1,_⟩:=h.sortAt
 exact h1.lt.1
theorem zkg {f:Nat->Nat} {st:SS} {r:Nat} {a:Ty} (W:st.Wf f) (h:FinT st r a):∃n0 st',(∀n,n0<=n->zg2 n st r=some (a.tsort,st'))/\st'.Wf f/\st.Sim st':=by
 obtain ⟨n0,p,st',g,hr,W',S⟩:=zgb W h.lt
 obtain ⟨p',x,h1,h2,h3⟩:=h.sortAt
 have:=h1.unique hr
 subst this
 obtain ⟨y,hy,e,_⟩:=S.shape _ _ h2
 refine ⟨n0,st',fun n hn => ?_,W',S⟩
 unfold zg2
 rw [g n hn]
 simp only [zbS]
 rw [hy]
 simp only [zbS]
 rw [e,h3]
def Fits (s:List Nat×List UInt8):Prop:=2 * s.1.length<=s.2.length
def WrOk (f:Nat->Nat) (a:Ty):Prop:=∀ {st:SS} {r:Nat} {s:List Nat×List UInt8},st.Wf f->FinT st r a->Fits s ->
 ∃n0 st',(∀n,n0<=n->zcu n ⟨st,s.1,s.2⟩ r=some ⟨st',(wrT a s).1,(wrT a s).2⟩)/\st'.Wf f/\st.Sim st'/\Fits (wrT a s)
theorem zod {f:Nat->Nat} {a:Ty} (h:WrOk f a) (b:Bool) {st:SS} {r:Nat} {s:List Nat×List UInt8} (W:st.Wf f) (hF:FinT st r a) (hs:Fits s) :
  ∃n0 st',(∀n,n0<=n->zjm n ⟨st,s.1,s.2⟩ r b=some ⟨st',(brk b (wrT a) s).1,(brk b (wrT a) s).2⟩)/\st'.Wf f/\st.Sim st'/\Fits (brk b (wrT a) s):=by
 cases b with
 | false =>
  obtain ⟨n0,st',g,W',S,F⟩:=h W hF hs
  refine ⟨n0+1,st',fun n hn => ?_,W',S,F⟩
  obtain ⟨m,rfl⟩:∃m,n=m+1:=⟨n-1,by omega⟩
  rw [zjm]
  exact g m (by omega)
 | true =>
  have hs1:Fits (s.1,putS 400 s.2 [40]):=by
   have:=(zhk 400 s.2 [40]).1
   unfold Fits at hs ⊢
   simp only
   omega
  obtain ⟨n0,st',g,W',S,F⟩:=h W hF hs1
  refine ⟨n0+1,st',fun n hn => ?_,W',S,?_⟩
  ·obtain ⟨m,rfl⟩:∃m,n=m+1:=⟨n-1,by omega⟩
   rw [zjm]
   simp only [if_true]
   rw [g m (by omega)]
   rfl
  ·have:=(zhk 400 (wrT a (s.1,putS 400 s.2 [40])).2 [41]).1
   unfold Fits at F ⊢
   simp only [brk,if_true]
   omega
theorem yeh {vars:List Nat} {r:Nat} (h:vars.length<=2000):zjl vars r=some (numT vars r):=by
 unfold zjl numT
 cases idxS r vars 0 with
 | some i=>rfl
 | none=>simp only; rw [if_pos h]
theorem ycr (vars:List Nat) (r:Nat):(numT vars r).2.length<=vars.length+1:=by
 unfold numT
 cases idxS r vars 0 with
 | some i=>simp
 | none=>simp
theorem yas (k:Nat):2<=(zh8 k).length:=by
 unfold zh8
 simp
theorem zxg (f:Nat->Nat):∀a:Ty,WrOk f a:=by
 intro a
 induction a with
 | var q =>
  intro st r s W hF hs
  by_cases hfull:400<s.2.length
  ·refine ⟨1,st,fun n hn => ?_,W,.refl _,by simp only [wrT,if_pos hfull]; exact hs⟩
   obtain ⟨m,rfl⟩:∃m,n=m+1:=⟨n-1,by omega⟩
   simp only [zcu,wrT,if_pos hfull]
  obtain ⟨n0,p,st',g,hr,W',S⟩:=zgb W hF.lt
  cases hF with
  | var hr' hx hs0 =>
   have:=hr'.unique hr
   subst this
   obtain ⟨y,hy,e,_⟩:=S.shape _ _ hx
   have hl:s.1.length<=2000:=by unfold Fits at hs; omega
   refine ⟨n0+1,st',fun n hn => ?_,W',S,?_⟩
   ·obtain ⟨m,rfl⟩:∃m,n=m+1:=⟨n-1,by omega⟩
    simp only [zcu,wrT,if_neg hfull]
    rw [g m (by omega)]
    simp only [zbS]
    rw [hy]
    simp only [zbS]
    rw [if_pos (e.trans hs0),yeh hl]
    rfl
   ·have h1:=ycr s.1 q
    have h2:=(zhk 400 s.2 (zh8 (numT s.1 q).1)).2 hfull
    have h3:=yas (numT s.1 q).1
    unfold Fits at hs ⊢
    simp only [wrT,if_neg hfull]
    omega
 | int =>
  intro st r s W hF hs
  by_cases hfull:400<s.2.length
  ·refine ⟨1,st,fun n hn => ?_,W,.refl _,by simp only [wrT,if_pos hfull]; exact hs⟩
   obtain ⟨m,rfl⟩:∃m,n=m+1:=⟨n-1,by omega⟩
   simp only [zcu,wrT,if_pos hfull]
  obtain ⟨n0,p,st',g,hr,W',S⟩:=zgb W hF.lt
  cases hF with
  | int hr' hx hs0 =>
   have:=hr'.unique hr
   subst this
   obtain ⟨y,hy,e,_⟩:=S.shape _ _ hx
   refine ⟨n0+1,st',fun n hn => ?_,W',S,?_⟩
   ·obtain ⟨m,rfl⟩:∃m,n=m+1:=⟨n-1,by omega⟩
    simp only [zcu,wrT,if_neg hfull]
    rw [g m (by omega)]
    simp only [zbS]
    rw [hy]
    simp only [zbS]
    rw [if_neg (by omega),if_pos (e.trans hs0)]
   ·have h2:=(zhk 400 s.2 [105,110,116]).1
    unfold Fits at hs ⊢
    simp only [wrT,if_neg hfull]
    omega
 | bool =>
  intro st r s W hF hs
  by_cases hfull:400<s.2.length
  ·refine ⟨1,st,fun n hn => ?_,W,.refl _,by simp only [wrT,if_pos hfull]; exact hs⟩
   obtain ⟨m,rfl⟩:∃m,n=m+1:=⟨n-1,by omega⟩
   simp only [zcu,wrT,if_pos hfull]
  obtain ⟨n0,p,st',g,hr,W',S⟩:=zgb W hF.lt
  cases hF with
  | bool hr' hx hs0 =>
   have:=hr'.unique hr
   subst this
   obtain ⟨y,hy,e,_⟩:=S.shape _ _ hx
   refine ⟨n0+1,st',fun n hn => ?_,W',S,?_⟩
   ·obtain ⟨m,rfl⟩:∃m,n=m+1:=⟨n-1,by omega⟩
    simp only [zcu,wrT,if_neg hfull]
    rw [g m (by omega)]
    simp only [zbS]
    rw [hy]
    simp only [zbS]
    rw [if_neg (by omega),if_neg (by omega),if_pos (e.trans hs0)]
   ·have h2:=(zhk 400 s.2 [98,111,111,108]).1
    unfold Fits at hs ⊢
    simp only [wrT,if_neg hfull]
    omega
 | fn a b iha ihb =>
  intro st r s W hF hs
  by_cases hfull:400<s.2.length
  ·refine ⟨1,st,fun n hn => ?_,W,.refl _,by simp only [wrT,if_pos hfull]; exact hs⟩
   obtain ⟨m,rfl⟩:∃m,n=m+1:=⟨n-1,by omega⟩
   simp only [zcu,wrT,if_pos hfull]
  obtain ⟨n0,p,st1,g,hr,W1,S1⟩:=zgb W hF.lt
  cases hF with
  | fn hr' hx hs0 ha hb =>
   have:=hr'.unique hr
   subst this
   obtain ⟨y,hy,e,e2,e3⟩:=S1.shape _ _ hx
   have ha1:FinT st1 y.left a:=by rw [e2]; exact ha.sim S1
   have hb1:FinT st1 y.right b:=by rw [e3]; exact hb.sim S1
   obtain ⟨n2,st2,g2,W2,S2⟩:=zkg W1 ha1
   obtain ⟨n3,st3,g3,W3,S3,F3⟩:=zod iha (a.tsort==3) W2 (ha1.sim S2) hs
   have hs4:Fits ((brk (a.tsort==3) (wrT a) s).1,putS 400 (brk (a.tsort==3) (wrT a) s).2 [32,45,62,32]):=by
    have:=(zhk 400 (brk (a.tsort==3) (wrT a) s).2 [32,45,62,32]).1
    unfold Fits at F3 ⊢
    simp only
    omega
   obtain ⟨n4,st4,g4,W4,S4,F4⟩:=ihb W3 ((hb1.sim S2).sim S3) hs4
   refine ⟨max (max n0 n2) (max n3 n4)+1,st4,fun n hn => ?_,W4,((S1.trans S2).trans S3).trans S4,by simp only [wrT,if_neg hfull]; exact F4⟩
   obtain ⟨m,rfl⟩:∃m,n=m+1:=⟨n-1,by omega⟩
   simp only [zcu,wrT,if_neg hfull]
   rw [g m (by omega)]
   simp only [zbS]
   rw [hy]
   simp only [zbS]
   rw [if_neg (by omega),if_neg (by omega),if_neg (by omega),if_pos (e.trans hs0),g2 m (by omega)]
   simp only [zbS]
   rw [g3 m (by omega)]
   simp only [zbS]
   exact g4 m (by omega)
 | pair a b iha ihb =>
  intro st r s W hF hs
  by_cases hfull:400<s.2.length
  ·refine ⟨1,st,fun n hn => ?_,W,.refl _,by simp only [wrT,if_pos hfull]; exact hs⟩
   obtain ⟨m,rfl⟩:∃m,n=m+1:=⟨n-1,by omega⟩
   simp only [zcu,wrT,if_pos hfull]
  obtain ⟨n0,p,st1,g,hr,W1,S1⟩:=zgb W hF.lt
  cases hF with
  | pair hr' hx hs0 ha hb =>
   have:=hr'.unique hr
   subst this
   obtain ⟨y,hy,e,e2,e3⟩:=S1.shape _ _ hx
   have ha1:FinT st1 y.left a:=by rw [e2]; exact ha.sim S1
   have hb1:FinT st1 y.right b:=by rw [e3]; exact hb.sim S1
   obtain ⟨n2,st2,g2,W2,S2⟩:=zkg W1 ha1
   obtain ⟨n3,st3,g3,W3,S3,F3⟩:=zod iha (a.tsort==3||a.tsort==4) W2 (ha1.sim S2) hs
   have hs4:Fits ((brk (a.tsort==3||a.tsort==4) (wrT a) s).1,putS 400 (brk (a.tsort==3||a.tsort==4) (wrT a) s).2 [32,42,32]):=by
    have:=(zhk 400 (brk (a.tsort==3||a.tsort==4) (wrT a) s).2 [32,42,32]).1
    unfold Fits at F3 ⊢
    simp only
    omega
   obtain ⟨n4,st4,g4,W4,S4⟩:=zkg W3 ((hb1.sim S2).sim S3)
   obtain ⟨n5,st5,g5,W5,S5,F5⟩:=zod ihb (b.tsort==3||b.tsort==4) W4 (((hb1.sim S2).sim S3).sim S4) hs4
   refine ⟨max (max n0 n2) (max n3 (max n4 n5))+1,st5,fun n hn => ?_,W5,(((S1.trans S2).trans S3).trans S4).trans S5,by simp only [wrT,if_neg hfull]; exact F5⟩
   obtain ⟨m,rfl⟩:∃m,n=m+1:=⟨n-1,by omega⟩
   simp only [zcu,wrT,if_neg hfull]
   rw [g m (by omega)]
   simp only [zbS]
   rw [hy]
   simp only [zbS]
   rw [if_neg (by omega),if_neg (by omega),if_neg (by omega),if_neg (by omega),if_pos (e.trans hs0),g2 m (by omega)]
   simp only [zbS]
   rw [g3 m (by omega)]
   simp only [zbS]
   rw [g4 m (by omega)]
   simp only [zbS]
   exact g5 m (by omega)
theorem yei {t:T} {w:Nat} (hw:zaj t .nil=some w) (hl:w<=2000):∃n0 res,(∀n,n0<=n->ofS n t=some res)/\((res=none/\∀a,¬Typ t .nil a)\/∃a,res=some a.shown/\Most t a):=by
 obtain ⟨n0,r,st,g,h⟩:=zw7 hw hl
 have unf:∀n,n0<=n->ofS n t=if st.clash then some none else (zhs n st).bind fun b=>if b.1 then some none else (zcu n ⟨b.2,[],[]⟩ r).bind fun u=>some (some (zju 400 u.acc)):=fun n hn=>by
  unfold ofS
  have:=g n hn
  unfold ss2 at this
  rw [this]
  rfl
 rcases h with ⟨hc,hn⟩ | ⟨hc,b,st',g2,h⟩
 ·exact ⟨n0,none,fun n hn=>by rw [unf n hn,hc]; rfl,.inl ⟨rfl,hn⟩⟩
 ·rcases h with ⟨rfl,hn⟩ | ⟨rfl,⟨f,W'⟩,a,ha,hm⟩
  ·exact ⟨n0,none,fun n hn'=>by rw [unf n hn',hc,g2 n hn']; rfl,.inl ⟨rfl,hn⟩⟩
  ·obtain ⟨n3,st3,g3,_⟩:=zxg f a W' ha (s:=([],[])) (by simp [Fits])
   refine ⟨max n0 n3,some a.shown,fun n hn => ?_,.inr ⟨a,rfl,hm⟩⟩
   rw [unf n (by omega),hc,g2 n (by omega)]
   simp only [Bool.false_eq_true,if_false,zbS]
   have:=g3 n (by omega)
   simp only at this
   rw [this]
   rfl
end Go.Proofs.YtckhafpejefbbaaGreatDoor.Tw
namespace Go.Proofs.YtckhafpejefbbaaGreatDoor
open Go.RowKit Go.Shelf
attribute [local go_sem] Oper.semAt_some
def FreeAt (L:List NB):Option Nat->Prop
 | none=>∀y∈L,∃a,y.k=some a
 | some p=>∃pre y post,L=pre++y::post/\(∀z∈pre,∃a,z.k=some a)/\y.k=none/\y.fr=p
theorem FreeAt.append {L1 L2:List NB} {o1 o2:Option Nat} (h1:FreeAt L1 o1) (h2:FreeAt L2 o2):FreeAt (L1++L2) (o1.or o2):=by
 cases o1 with
 | some p =>
  obtain ⟨pre,y,post,rfl,h⟩:=h1
  exact ⟨pre,y,post++L2,by simp,h⟩
 | none =>
  cases o2 with
  | none=>exact fun y hy=>(zmA.1 hy).elim (h1 y) (h2 y)
  | some p =>
   obtain ⟨pre,y,post,rfl,h,h'⟩:=h2
   exact ⟨L1++pre,y,post,by simp,fun z hz=>(zmA.1 hz).elim (h1 z) (h z),h'⟩
def EnvB (env:List (List UInt8)) (e:Tw.BEn):Prop:=∀x,env.contains x=true↔∃a,e.look x=some a
theorem EnvB.cons {env:List (List UInt8)} {e:Tw.BEn} (h:EnvB env e) (bn:List UInt8) (k:Addr):EnvB (bn::env) (.cons bn k e):=by
 intro x
 simp only [Tw.BEn.look,List.contains_cons,Bool.or_eq_true,beq_iff_eq]
 by_cases hx:bn=x
 ·simp [hx]
 ·rw [if_neg hx]
  constructor
  ·rintro (h' | h')
   ·exact absurd h'.symm hx
   ·exact (h x).1 h'
  ·exact fun h'=>.inr ((h x).2 h')
theorem NL.free {w:World} {hi:Nat}:∀ {t:Tw.T} {v:Value} {e:Tw.BEn} {L:List NB} {env:List (List UInt8)},NL w hi t v e L->EnvB env e->FreeAt L (t.freeS env)
 | .name fr to x,_,e,_,env,⟨b,_,rfl⟩,hE=>by
  simp only [Tw.T.freeS]
  by_cases hx:env.contains x=true
  ·rw [if_pos hx]
   intro y hy
   simp only [List.mem_singleton] at hy
   subst hy
   exact (hE x).1 hx
  ·rw [if_neg hx]
   refine ⟨[],_,[],rfl,by simp,?_,rfl⟩
   unfold NB.k
   dsimp only
   cases hl:e.look x with
   | none=>rfl
   | some a=>exact absurd ((hE x).2 ⟨a,hl⟩) hx
 | .int ..,_,_,_,_,⟨_,rfl⟩,_=>by simp [Tw.T.freeS,FreeAt]
 | .truth ..,_,_,_,_,⟨_,rfl⟩,_=>by simp [Tw.T.freeS,FreeAt]
 | .side ..,_,_,_,_,⟨_,rfl⟩,_=>by simp [Tw.T.freeS,FreeAt]
 | .bracket fr to i,_,e,L,env,⟨_,_,r1⟩,hE=>by
  have:=NL.free r1 hE
  simpa [Tw.T.freeS] using this
 | .pair ..,_,_,_,_,⟨_,_,_,_,_,r1,r2,rfl⟩,hE=>(NL.free r1 hE).append (NL.free r2 hE)
 | .call ..,_,_,_,_,⟨_,_,_,_,_,r1,r2,rfl⟩,hE=>(NL.free r1 hE).append (NL.free r2 hE)
 | .binary ..,_,_,_,_,⟨_,_,_,_,_,r1,r2,rfl⟩,hE=>(NL.free r1 hE).append (NL.free r2 hE)
 | .cond ..,_,_,_,_,⟨_,_,_,_,_,_,_,r1,r2,r3,rfl⟩,hE=>((NL.free r1 hE).append (NL.free r2 hE)).append (NL.free r3 hE)
 | .fn fr to bn bat b,_,e,L,env,⟨_,_,_,r1⟩,hE=>by
  have:=NL.free r1 (hE.cons bn _)
  simpa [Tw.T.freeS] using this
 | .lett fr to rc bn bat d b,_,_,_,_,⟨k,v1,v2,L1,L2,_,r1,r2,rfl⟩,hE=>by
  cases rc with
  | false=>exact (NL.free r1 hE).append (NL.free r2 (hE.cons _ _))
  | true=>exact (NL.free r1 (hE.cons _ _)).append (NL.free r2 (hE.cons _ _))
theorem NL.block {w:World} {hi:Nat}:∀ {t:Tw.T} {v:Value} {e:Tw.BEn} {L:List NB},NL w hi t v e L->∀y∈L,w.heap[y.nb]? = some (.cells #[.int .i64 y.fr,.int .i64 y.to,ug y.tx] 87 (0,0))
 | .name fr to x,_,e,_,⟨b,⟨_,hb⟩,rfl⟩=>by
  intro y hy
  simp only [List.mem_singleton] at hy
  subst hy
  exact hb
 | .int ..,_,_,_,⟨_,rfl⟩=>by simp
 | .truth ..,_,_,_,⟨_,rfl⟩=>by simp
 | .side ..,_,_,_,⟨_,rfl⟩=>by simp
 | .bracket ..,_,_,_,⟨_,_,r1⟩=>NL.block r1
 | .pair ..,_,_,_,⟨_,_,_,_,_,r1,r2,rfl⟩=>fun y hy=>(zmA.1 hy).elim (NL.block r1 y) (NL.block r2 y)
 | .call ..,_,_,_,⟨_,_,_,_,_,r1,r2,rfl⟩=>fun y hy=>(zmA.1 hy).elim (NL.block r1 y) (NL.block r2 y)
 | .binary ..,_,_,_,⟨_,_,_,_,_,r1,r2,rfl⟩=>fun y hy=>(zmA.1 hy).elim (NL.block r1 y) (NL.block r2 y)
 | .cond ..,_,_,_,⟨_,_,_,_,_,_,_,r1,r2,r3,rfl⟩=>fun y hy=>(zmA.1 hy).elim (fun h=>(zmA.1 h).elim (NL.block r1 y) (NL.block r2 y)) (NL.block r3 y)
 | .fn ..,_,_,_,⟨_,_,_,r1⟩=>NL.block r1
 | .lett fr to rc bn bat d b,_,_,_,⟨k,v1,v2,L1,L2,_,r1,r2,rfl⟩=>fun y hy=>(zmA.1 hy).elim (NL.block r1 y) (NL.block r2 y)
theorem FreeAt.first {L init:List NB} {x:NB} {o:Option Nat} (h:FreeAt L o) (hp:init ++ [x] <+: L) (hi:∀z∈init,∃a,z.k=some a) (hx:x.k=none):o=some x.fr:=by
 obtain ⟨r,rfl⟩:=hp
 cases o with
 | none =>
  obtain ⟨a,ha⟩:=h x (by simp)
  rw [hx] at ha
  cases ha
 | some p =>
  obtain ⟨pre,y,post,he,h1,h2,rfl⟩:=h
  have e:init=pre/\x=y:=by
   rw [List.append_assoc] at he
   rcases List.append_eq_append_iff.1 he with ⟨m,hm1,hm2⟩ | ⟨m,hm1,hm2⟩
   ·cases m with
    | nil=>simp at hm1 hm2; exact ⟨hm1.symm,hm2.1⟩
    | cons z m =>
     simp at hm2
     obtain ⟨a,ha⟩:=h1 x (by rw [hm1,<-hm2.1]; simp)
     rw [hx] at ha; cases ha
   ·cases m with
    | nil=>simp at hm1 hm2; exact ⟨hm1,hm2.1.symm⟩
    | cons z m =>
     simp at hm2
     obtain ⟨a,ha⟩:=hi y (by rw [hm1,hm2.1]; simp)
     rw [h2] at ha; cases ha
  rw [e.2]
def yfd (w:World) (res:Tw.RR) (e:Ending) (w':World):Prop :=
 match res with
 | .fault k p=>e = .returned (.tuple #[.nilIface,.int .i64 k,.int .i64 p])/\TK w.heap.size WtS w w'
 | .fine t _=>∃tv,e = .returned (.tuple #[tv,.int .i64 0,.int .i64 0])/\Rep w' w.heap.size w'.heap.size t tv/\TK w.heap.size WtS w w'
structure Stopped (w W2:World) (fr:Nat) (W:World):Prop where
 res:Res3 w W w.heap.size .nilIface (.int .i64 4) (.int .i64 fr)
 old:∀k,k<W2.heap.size->k≠w.heap.size->k≠w.heap.size+1->k≠w.heap.size+2->W.heap[k]? = W2.heap[k]?
 size:W2.heap.size<=W.heap.size
 os:W.os=W2.os
 tape:W.tape=W2.tape
 output:W.output=W2.output
theorem Stopped.own {w W2:World} {fr:Nat} {B:Nat} (hB:W2.heap.size<=B) (hw:w.heap.size+3<=W2.heap.size) {W W':World} {row:Option Nat} (h:Stopped w W2 fr W) (hg:W.grownBy W' row) (hr:∀r,row=some r->B<=r):Stopped w W2 fr W':=by
 have hs:=h.size
 have key:∀k,k<W2.heap.size->W'.heap[k]? = W.heap[k]? := fun k hk=>hg.block k (by omega) (fun e=>by have:=hr k e.symm; omega)
 refine ⟨h.res.kept (fun {k o} hk x=>by rw [key k (by omega)]; exact x),fun k hk n1 n2 n3=>by rw [key k hk]; exact h.old k hk n1 n2 n3,by have:=hg.size; omega,hg.os.trans h.os,hg.tape.trans h.tape,hg.output.trans h.output⟩
theorem zyu {w W5:World} {x y z:Value} {D:Nat} (C:Res3 w W5 w.heap.size x y z) (K:TK w.heap.size WtS w W5) (hD:W5.heap[D]? = some (.deferred (some []))) (hb:w.heap.size+3<=D) (x' y' z':Value) :
  ∃W6,((W5.setCell ⟨w.heap.size,0,none⟩ x').setCell ⟨w.heap.size+1,0,none⟩ y').setCell ⟨w.heap.size+1+1,0,none⟩ z'=W6/\W6.heap[D]? = some (.deferred (some []))/\Res3 w (W6.putObj D (.deferred none)) w.heap.size x' y' z'/\TK w.heap.size WtS w (W6.putObj D (.deferred none)) /\
   (∀k,w.heap.size+3<=k->k≠D->(W6.putObj D (.deferred none)).heap[k]? = W5.heap[k]?)/\(W6.putObj D (.deferred none)).heap.size=W5.heap.size:=by
 obtain ⟨W6,hW6,hC6,ho,hsz,o1,o2,o3⟩:=C.set x' y' z'
 have put:∀b,b≠D->(W6.putObj D (.deferred none)).heap[b]? = W6.heap[b]? := fun b hb=>by
  rw [World.putObj,Array.getElem?_setIfInBounds_ne (Ne.symm hb)]
 refine ⟨W6,hW6,by rw [ho D (by omega) (by omega) (by omega)]; exact hD,hC6.kept (fun {k o} hk x=>by rw [put k (by omega)]; exact x),?_,fun k hk hn=>by rw [put k hn,ho k (by omega) (by omega) (by omega)],by simp [World.putObj,hsz]⟩
 refine ⟨fun {k} x y=>by rw [put k (by omega),ho k (by omega) (by omega) (by omega)]; exact K.low x y,o1.trans K.os,o2.trans K.tape,o3.trans K.output,by have:=K.size; simp [World.putObj]; omega,fun {k c t m} x y => ?_,fun {k o} x y => ?_⟩
 ·have hk:=(zgE.1 x).1
  rw [put k (by omega),ho k (by omega) (by omega) (by omega)]
  exact K.cells x y
 ·have hk:=(zgE.1 x).1
  rw [put k (by omega),ho k (by omega) (by omega) (by omega)]
  exact K.other x y
theorem yat (hIB:Said.IndexByte) (hPI:Said.ParseInt) (hIt:Said.ItoaSmall) (s:ByteArray) (hs:s.size<=300) {ts:List Tw.Tok} (h1:Tw.split s.data.toList = .ok ts) {fp fuel:Nat} {t:Tw.T} (h2:Tw.zb9 s.data.toList ts fp=some (.ok t)) {res:Tw.RR} (h3:Tw.zgu fuel t=some res) (w:World) :
  Calls Tryz.prog 32 #[.string s] w (yfd w res):=by
 refine (callsIn_wide (n:=3)).1 ?_
 refine callsIn_of_wp_marks Tryz.func32 rfl trivial ?_
 simp only [Tryz.ntmps32,List.size_toArray,List.length_cons,List.length_nil,Nat.reduceAdd,Nat.reduceSub,Array.replicate_succ,Array.replicate_zero,List.push_toArray,List.append_toArray,List.nil_append,List.cons_append]
 have H3:=bV h3
 clear h3
 obtain ⟨W0,hW0,hg0,z0,hC0⟩:=zqf w
 have G0:=bV hg0
 have C0:=bV hC0
 clear hg0 hC0
 gi_wp2_with fail
 refine ⟨trivial,?_⟩
 refine (callsIn_wide.2 (zk2 hIB s W0 hs)).mono ?_
 rintro e1 w1 ⟨hB1,hm⟩
 rw [h1] at hm
 obtain ⟨v,rfl,ho⟩:=hm
 have hts:0<ts.length/\ts.length<=301:=zoc h1 (by simpa using hs)
 obtain ⟨gt,cap,cur,rfl,hgt,hTR⟩:=TokRow.zs2 ho hts.1 hts.2
 have B1:=bV hB1
 have T1:=bV hTR
 clear hB1 ho hW0 hTR
 gi_wp2_with fail
 refine ⟨trivial,?_⟩
 refine (callsIn_wide.2 (zpz hPI (uh T1) s hs h2)).mono ?_
 rintro e1 w2 ⟨hg,tv,rfl,hR⟩
 have G2:=bV hg
 have R2:=bV hR
 obtain ⟨PT,nt,rfl⟩:=hR.iface
 have key0:∀ {b:Nat} {o:Obj},W0.heap[b]? = some o->w2.heap[b]? = some o:=fun {b o} h=>by
  have hb:=(zgE.1 h).1
  rw [hg.block b (by have:=B1.out.size; omega) (by simp),B1.out.block b hb]; exact h
 have C2:=bV ((uh C0).kept (fun _ h=>key0 h))
 have z2:w.heap.size+3<=w2.heap.size:=by have:=B1.out.size; have:=hg.size; omega
 have K2:Hid (TK w.heap.size WtS w w2):=((TK.of_grown _ WtS G0.out).trans (((TK.of_grown _ WtS (zdo B1.out)).trans (TK.of_grown _ WtS hg))))
 have z1:=B1.out.size
 clear hg hR T1 key0 C0
 gi_wp2_with fail
 refine ⟨trivial,?_⟩
 refine (callsIn_wide.2 (zob w2 ⟨PT,nt,rfl⟩)).mono ?_
 rintro e1 w3 ⟨rfl,rfl⟩
 gi_wp2_with fail
 obtain ⟨L0,hL0⟩:=NL.of_rep .nil ((uh R2).wide (Nat.zero_le _) (znL _))
 have hnl:=NL.kp (Kp.of_grown (zwA w2 (.cells #[.iface PT (.pointer (some ⟨nt,0,none⟩))] 68) none)) hL0
 have hfree:FreeAt L0 (t.freeS []):=hL0.free (fun x=>by simp [Tw.BEn.look])
 have hblock:=hnl.block
 have hne:=zad w2 (.cells #[.iface PT (.pointer (some ⟨nt,0,none⟩))] 68)
 obtain ⟨wn,hwn⟩:∃wn,w2.alloc (.cells #[.iface PT (.pointer (some ⟨nt,0,none⟩))] 68)=wn:=⟨_,rfl⟩
 have zn:wn.heap.size=w2.heap.size+1:=by rw [<-hwn]; simp
 have CN:Hid (Res3 w wn w.heap.size .nilIface (.int .i64 0) (.int .i64 0)):=(uh C2).kept (fun {k o} hk x=>by rw [<-hwn]; exact (Below.heap_alloc w2 _ k (by omega)).trans x)
 have KN:Hid (TK w.heap.size WtS w wn):=(uh K2).trans (TK.of_grown _ WtS (by rw [<-hwn]; exact zwA _ _ none))
 have RN:Hid (Rep wn w1.heap.size w2.heap.size t (.iface PT (.pointer (some ⟨nt,0,none⟩)))):=(uh R2).kept (fun b _ h2 _=>by rw [<-hwn]; exact Below.heap_alloc w2 _ b h2) (znL _) (znL _)
 rw [hwn] at hnl hblock hne ⊢
 clear C2 K2 R2 G2 B1 hwn hL0
 refine zsd (p:=34) (q:=35) (d1:=9) (d2:=10) (by omega) rfl (enters_of Tryz.func83 (by kernel_rfl) rfl) (zkf hne hnl) (fun h k=>h.trans k) zlj (Below.refl _ _)
  (fun pre W=>(∀z∈pre,∃a,z.1.k=some a)/\Below wn.heap.size wn W) (fun c pre W=>c = .ret/\∃init x,pre=init ++ [x]/\(∀z∈init,∃a,z.1.k=some a)/\x.1.k=none/\Stopped w wn x.1.fr W) ?own ?ownx ⟨by simp,Below.refl _ _⟩ ?assign ?body ?done ?stop
 case own =>
  intro pre W W' row h hg hr
  exact ⟨h.1,ownFrom_below (β := Unit) (znL _) (znL _) () W W' row h.2 hg hr⟩
 case ownx =>
  rintro c pre W W' row ⟨h0,init,x,h1,h2,h3,h4⟩ hg hr
  exact ⟨h0,init,x,h1,h2,h3,h4.own (znL _) (by omega) hg (fun r e=>(hr r e).1)⟩
 case assign =>
  intro l x W K hK
  simp only [zsA,zsZ,zsS] at hK ⊢
  gi_wp2
  exact hK
 case body =>
  rintro l pre ⟨x,hx⟩ W ⟨hpre,hB⟩ hlt
  cases hk:x.k with
  | some a =>
   simp only [zsA,zsZ,zsS]
   try dsimp only
   gi_wp2
   refine ⟨KeepsOthers.refl _,Kp.refl _,fun z hz => ?_,hB⟩
   rcases zmA.1 hz with hz | hz
   ·exact hpre z hz
   ·simp only [List.mem_singleton] at hz
    subst hz
    exact ⟨a,hk⟩
  | none =>
   simp only [zsA,zsZ,zsS]
   try dsimp only
   have hb:=hblock x hx
   have hb':W.heap[x.nb]? = some (.cells #[.int .i64 x.fr,.int .i64 x.to,ug x.tx] 87 (0,0)):=(hB.block _ (zgE.1 hb).1).trans hb
   obtain ⟨q0,_,_,_,_,_⟩:=zaf hb'
   have CW:=bV ((uh CN).kept (W':=W) (fun {k o} hk' x'=>(hB.block k (by omega)).trans x'))
   obtain ⟨⟨b1,f1⟩,⟨b2,f2⟩,b3,f3⟩:=(uh CW).cells
   have HB:=bV hB
   have n1:¬w.heap.size=x.nb:=fun e=>by rw [<-e,(uh CW).1] at hb'; simp at hb'
   have n2:¬w.heap.size+1=x.nb:=fun e=>by rw [<-e,(uh CW).2.1] at hb'; simp at hb'
   have n3:¬w.heap.size+1+1=x.nb:=fun e=>by rw [<-e,(uh CW).2.2.1] at hb'; simp at hb'
   have n4:¬x.nb=w.heap.size:=fun e=>n1 e.symm
   have n5:¬x.nb=w.heap.size+1:=fun e=>n2 e.symm
   have n6:¬x.nb=w.heap.size+1+1:=fun e=>n3 e.symm
   have FIN:Hid (∀W6,((W.drew.setCell ⟨w.heap.size,0,none⟩ .nilIface).setCell ⟨w.heap.size+1,0,none⟩ (.int .i64 4)).setCell ⟨w.heap.size+1+1,0,none⟩ (.int .i64 x.fr)=W6->Stopped w wn x.fr W6/\KeepsOthers W W6):=by
    intro W6 hW6
    obtain ⟨W7,hW7,hC7,ho,hsz,o1,o2,o3⟩:=Res3.set (W:=W.drew) (uh CW) .nilIface (.int .i64 4) (.int .i64 x.fr)
    rw [hW6] at hW7
    subst hW7
    refine ⟨⟨hC7,fun k hk' m1 m2 m3=>(ho k m1 m2 m3).trans (hB.block k hk'),by rw [hsz]; exact hB.size,o1.trans hB.os,o2.trans hB.tape,o3.trans hB.output⟩,?_⟩
    rw [<-hW6]
    exact ((KeepsOthers.drew W).trans (KeepsOthers.setCell _ _ _)).trans ((KeepsOthers.setCell _ _ _).trans (KeepsOthers.setCell _ _ _))
   have HP:=bV hpre
   clear hb hb' hB hpre
   gi_wp2
   gi_region
   all_goals gi_wp2
   all_goals exact ⟨(uh FIN _ rfl).2,rfl,pre,⟨x,hx⟩,rfl,uh HP,hk,(uh FIN _ rfl).1⟩
 case stop =>
  rintro D c pre W hD hsp ⟨rfl,init,x,rfl,hi,hx,hS⟩ hK
  have hp:t.freeS []=some x.1.fr:=by
   refine hfree.first (init:=init.map (·.1)) (x:=x.1) (by simpa using hsp) (fun z hz => ?_) hx
   obtain ⟨z',hz',rfl⟩:=List.mem_map.1 hz
   exact hi z' hz'
  have h3':=uh H3
  rw [Tw.zgu,hp] at h3'
  cases h3'
  have HS:=bV hS
  clear hS hfree hblock hnl hne CN
  gi_wp2
  refine ⟨by simp,.inl ⟨_,_,rfl,run_takeDeferred hK,?_⟩⟩
  have put:∀b,b≠D->(W.putObj D (.deferred none)).heap[b]? = W.heap[b]? := fun b hb=>by
   rw [World.putObj,Array.getElem?_setIfInBounds_ne (Ne.symm hb)]
  have hS:=uh HS
  obtain ⟨⟨e1,_⟩,⟨e2,_⟩,e3,_⟩:=(hS.res.kept (W':=W.putObj D (.deferred none)) (fun {k o} hk x=>by rw [put k (by omega)]; exact x)).cells
  refine ⟨.tuple #[.nilIface,.int .i64 4,.int .i64 x.1.fr],by simp [results,Tryz.results32,go_sem,e1,e2,e3],rfl,?_⟩
  have K:=KN.out
  have hsz:=hS.size
  refine ⟨fun {k} x y=>by rw [put k (by omega),hS.old k (by omega) (by omega) (by omega) (by omega)]; exact K.low x y,hS.os.trans K.os,hS.tape.trans K.tape,hS.output.trans K.output,by have:=K.size; simp [World.putObj]; omega,fun {k c t m} x y => ?_,fun {k o} x y => ?_⟩
  ·have hk:=(zgE.1 x).1
   rw [put k (by omega),hS.old k (by omega) (by omega) (by omega) (by omega)]
   exact K.cells x y
  ·have hk:=(zgE.1 x).1
   rw [put k (by omega),hS.old k (by omega) (by omega) (by omega) (by omega)]
   exact K.other x y
 case done =>
  rintro D xs W hD hxs ⟨hall,hB⟩ hK
  have hp:t.freeS []=none:=by
   cases hf:t.freeS [] with
   | none=>rfl
   | some p =>
    rw [hf] at hfree
    obtain ⟨pre,y,post,he,_,hy,_⟩:=hfree
    have hm:y∈xs.map (·.1):=by rw [hxs,he]; simp
    obtain ⟨z,hz,hzy⟩:=List.mem_map.1 hm
    obtain ⟨a,ha⟩:=hall z hz
    rw [hzy,hy] at ha
    cases ha
  have h3':=uh H3
  rw [Tw.zgu,hp] at h3'
  simp only [zbE] at h3'
  obtain ⟨k,hk0,h3'⟩:=h3'
  have H4:=bV hk0
  have H5:=bV h3'
  have z3:=hB.size
  have RW:Hid (Rep W w1.heap.size w2.heap.size t (.iface PT (.pointer (some ⟨nt,0,none⟩)))):=(uh RN).kept (fun b _ h2 _=>hB.block b (by omega)) (znL _) (znL _)
  have CW:=bV ((uh CN).kept (W':=W) (fun {k o} hk x=>(hB.block k (by omega)).trans x))
  have KW:Hid (TK w.heap.size WtS w W):=KN.out.trans (TK.of_grown _ _ (zdo hB))
  have HK:=bV hK
  clear hK hB hxs hall hk0 h3' CN KN RN hfree hblock hnl hne H3
  gi_wp2_with fail
  refine ⟨trivial,?_⟩
  refine (callsIn_wide.2 (zqc ((uh RW).wide (Nat.zero_le _) (znL _)) (uh H4))).mono ?_
  rintro e1 w4 ⟨rfl,hg⟩
  have zW:=hg.size
  have R4:=bV ((uh RW).grown hg (znL _) (znL _))
  have K4:Hid (TK w.heap.size WtS w w4):=KW.out.trans (TK.of_grown _ _ hg)
  have key:∀ {b:Nat} {o:Obj},W.heap[b]? = some o->w4.heap[b]? = some o:=fun {b o} h=>(hg.block b (zgE.1 h).1 (by simp)).trans h
  have C4:=bV ((uh CW).kept (fun _ x=>key x))
  have D4:=bV (key (uh HK))
  clear hg key CW KW RW HK
  by_cases hk2:2000<k
  ·have h5:=uh H5
   rw [if_pos hk2] at h5
   cases h5
   have hki:(2000:Int)<k:=by omega
   obtain ⟨⟨b1,f1⟩,⟨b2,f2⟩,b3,f3⟩:=(uh C4).cells
   gi_wp2_with fail
   obtain ⟨W6,hW6,hKD,hC6,hK6,_,_⟩:=zyu (uh C4) (uh K4) (uh D4) (by omega) .nilIface (.int .i64 10) (.int .i64 0)
   rw [hW6]
   obtain ⟨⟨e1,_⟩,⟨e2,_⟩,e3,_⟩:=hC6.cells
   refine ⟨by simp,.inl ⟨_,_,rfl,run_takeDeferred hKD,?_⟩⟩
   exact ⟨.tuple #[.nilIface,.int .i64 10,.int .i64 0],by simp [results,Tryz.results32,go_sem,e1,e2,e3],rfl,hK6⟩
  ·have h5:=uh H5
   rw [if_neg hk2] at h5
   simp only [zbE] at h5
   obtain ⟨o,ho,h5⟩:=h5
   have HO:=bV ho
   have hki:¬(2000:Int)<k:=by omega
   clear ho H5
   gi_wp2_with fail
   refine ⟨trivial,?_⟩
   refine (callsIn_wide.2 (yco hIt ((uh R4).wide (Nat.zero_le _) (znL _)) (uh HO))).mono ?_
   rintro e1 w5 ⟨rfl,hk⟩
   have z5:=hk.size
   have R5:=bV ((uh R4).kp (hk.kp (by decide)))
   have K5:Hid (TK w.heap.size WtS w w5):=K4.out.trans (hk.base (by omega))
   have C5:Hid (Res3 w w5 w.heap.size .nilIface (.int .i64 0) (.int .i64 0)):=⟨hk.cells (uh C4).1 (by decide),hk.cells (uh C4).2.1 (by decide),hk.cells (uh C4).2.2.1 (by decide),rfl⟩
   have D5:=bV (hk.other (uh D4) (by simp))
   obtain ⟨⟨b1,f1⟩,⟨b2,f2⟩,b3,f3⟩:=(uh C5).cells
   clear hk K4 C4 D4 R4
   cases o with
   | none =>
    cases h5
    unfold ofV
    gi_wp2_with fail
    obtain ⟨W6,hW6,hKD,hC6,hK6,_,_⟩:=zyu (uh C5) (uh K5) (uh D5) (by omega) .nilIface (.int .i64 5) (.int .i64 0)
    rw [hW6]
    obtain ⟨⟨e1,_⟩,⟨e2,_⟩,e3,_⟩:=hC6.cells
    refine ⟨by simp,.inl ⟨_,_,rfl,run_takeDeferred hKD,?_⟩⟩
    exact ⟨.tuple #[.nilIface,.int .i64 5,.int .i64 0],by simp [results,Tryz.results32,go_sem,e1,e2,e3],rfl,hK6⟩
   | some sh =>
    cases h5
    unfold ofV
    gi_wp2_with fail
    obtain ⟨W6,hW6,hKD,hC6,hK6,hold,hsz⟩:=zyu (uh C5) (uh K5) (uh D5) (by omega) (.iface PT (.pointer (some ⟨nt,0,none⟩))) (.int .i64 0) (.int .i64 0)
    rw [hW6]
    obtain ⟨⟨e1,_⟩,⟨e2,_⟩,e3,_⟩:=hC6.cells
    refine ⟨by simp,.inl ⟨_,_,rfl,run_takeDeferred hKD,?_⟩⟩
    refine ⟨.tuple #[.iface PT (.pointer (some ⟨nt,0,none⟩)),.int .i64 0,.int .i64 0],by simp [results,Tryz.results32,go_sem,e1,e2,e3],_,rfl,?_,hK6⟩
    exact (uh R5).kept (fun b hb1 hb2 _=>hold b (by omega) (by omega)) (by omega) (by omega)
theorem zqg (hIB:Said.IndexByte) (hPI:Said.ParseInt) (hIt:Said.ItoaSmall) (s:ByteArray) (hs:s.size<=300) {fp fo:Nat} {res:Tw.RR} (h:Tw.zk0 fp fo s.data.toList=some res) (w:World) :
  Calls Tryz.prog 32 #[.string s] w (yfd w res):=by
 unfold Tw.zk0 at h
 cases h1:Tw.split s.data.toList with
 | error p =>
  rw [h1] at h
  cases h
  exact (zxf hIB s hs h1 w).mono (fun e w' ⟨h,hg⟩=>⟨h,TK.of_grown _ _ hg⟩)
 | ok ts =>
  rw [h1] at h
  simp only [zbE] at h
  obtain ⟨r,h2,h⟩:=h
  cases r with
  | error p =>
   cases h
   exact (yar hIB hPI s hs h1 h2 w).mono (fun e w' ⟨h,hg⟩=>⟨h,TK.of_grown _ _ hg⟩)
  | ok t=>exact yat hIB hPI hIt s hs h1 h2 h w
open Go.RowKit Go.Shelf
def TextAt (w:World) (bt:Nat) (s:ByteArray) (t:Tw.T):Prop:=∃hi tv,w.heap[bt]? = some (.cells #[.string s,tv] 72 (0,0))/\Rep w 0 hi t tv
theorem TextAt.kp {w w':World} {bt:Nat} {s:ByteArray} {t:Tw.T} (h:TextAt w bt s t) (hk:Kp w w') (hb:∀c m,w.heap[bt]? = some (.cells c 72 m)->w'.heap[bt]? = some (.cells c 72 m)):TextAt w' bt s t:=by
 obtain ⟨hi,tv,h1,h2⟩:=h
 exact ⟨hi,tv,hb _ _ h1,h2.kp hk⟩
theorem TextAt.tk {B:Nat} {S:List TypeId} {w w':World} {bt:Nat} {s:ByteArray} {t:Tw.T} (h:TextAt w bt s t) (hk:TK B S w w') (hS:(72::zh9).all (fun t => !S.contains t)=true):TextAt w' bt s t:=by
 rw [List.all_cons] at hS
 obtain ⟨h1,h2⟩:=Bool.and_eq_true_iff.1 hS
 exact h.kp (hk.kp h2) (fun c m x=>hk.cells x (by simpa using h1))
structure Fine (S:List TypeId) (s:ByteArray) (t:Tw.T) (shown:List UInt8):Prop where
 size:s.size<=300
 split:∃ts fuel,Tw.split s.data.toList = .ok ts/\Tw.zb9 s.data.toList ts fuel=some (.ok t)
 bound:zri t
 weight:∃k,Tw.zaj t .nil=some k/\k<=2000
 of:zrh S t shown
 types:(72::(zh9 ++ [27,3])).all (fun t => !S.contains t)=true
theorem zkh (s:ByteArray) (w:World):∃v W,(convert 9 66 (.string s)).run Tryz.prog w = .ok v W/\(convert 66 9 v).run Tryz.prog W = .ok (.string s) W/\w.grownBy W none:=by
 refine ⟨_,_,run_bytes_of_string w _ _ 5 s Tryz.underlying9 Tryz.underlying66 Tryz.underlying5,?_,zaa (zac (zab _)) (zwA _ _ none)⟩
 have:=run_convert_bytes_back (P:=Tryz.prog) (w.drew.alloc (.cells (bytesRow s (grownCap w s.size 0 5)) 5 ((bytesRow s (grownCap w s.size 0 5)).size,(bytesRow s (grownCap w s.size 0 5)).size+1))) 66 9 5 ⟨w.heap.size,0,none⟩ (grownCap w s.size 0 5) s.data.toList Tryz.underlying66 Tryz.underlying5 Tryz.underlying9 (by
  intro j hj
  rw [show (Addr.add ⟨w.heap.size,0,none⟩ j)=(⟨w.heap.size,j,none⟩:Addr) from by simp [Addr.add]; omega]
  have e:w.heap.size=w.drew.heap.size:=rfl
  rw [e,World.cell?_alloc_mark,bytesRow_at s _ j (by rw [Array.length_toList] at hj; exact hj)]
  rfl)
 have hl:s.data.toList.length=s.size:=Array.length_toList
 rw [hl] at this
 exact this
theorem yau (hIB:Said.IndexByte) (hPI:Said.ParseInt) {S:List TypeId} {t:Tw.T} {shown:List UInt8} {s:ByteArray} (hF:Fine S s t shown) (w:World) :
  Calls Tryz.prog 16 #[.string s] w fun e w'=>∃bt,e = .returned (.tuple #[.pointer (some ⟨bt,0,none⟩),.int .i64 0,.int .i64 0])/\TextAt w' bt s t/\TK w.heap.size S w w':=by
 obtain ⟨v,W,hc1,hc2,hg⟩:=zkh s w
 have G:=bV hg
 have HF:=bV hF
 have hs:=hF.size
 clear hF hg
 have hs2:¬(300:Int)<s.size:=by omega
 go_enter Tryz.func16,Tryz.ntmps16
 go_wp2_with fail
 obtain ⟨ts,fuel,h1,h2⟩:=(uh HF).split
 obtain ⟨k,h4,h5⟩:=(uh HF).weight
 have hT:=(uh HF).types
 rw [List.all_cons] at hT
 refine (yaq hIB hPI (uh HF).of s hs h1 h2 (uh HF).bound h4 h5 (Bool.and_eq_true_iff.1 hT).2 W).mono ?_
 rintro e1 w1 ⟨tv,rfl,hR,hk⟩
 have R1:=bV hR
 obtain ⟨PT,nt,rfl⟩:=hR.iface
 have K1:Hid (TK w.heap.size S w w1):=(TK.of_grown _ S G.out).trans (hk.base G.out.size)
 clear hR hk
 go_wp2_with fail
 go_ret3
 exact ⟨_,rfl,⟨_,_,zad w1 _,(uh R1).grown (zwA _ _ none) (Nat.zero_le _) (znL _)⟩,K1.out.trans (TK.of_grown _ S (zwA _ _ none))⟩
theorem zhl {w:World} {bt:Nat} {s:ByteArray} {t:Tw.T} (h:TextAt w bt s t) :
  Calls Tryz.prog 25 #[.pointer (some ⟨bt,0,none⟩)] w fun e w'=>e = .returned (.string s)/\w=w':=by
 obtain ⟨hi,tv,h1,h2⟩:=h
 obtain ⟨c0,_,_,_⟩:=zau h1
 clear h1 h2
 go_enter Tryz.func25,Tryz.ntmps25
 go_wp2_with fail
 go_ret
 exact ⟨rfl,rfl⟩
theorem ziv {S:List TypeId} {w:World} {bt:Nat} {s:ByteArray} {t:Tw.T} {shown:List UInt8} (h:TextAt w bt s t) (hOf:zrh S t shown) :
  Calls Tryz.prog 22 #[.pointer (some ⟨bt,0,none⟩)] w fun e w'=>e = .returned (ug shown)/\TK w.heap.size S w w':=by
 obtain ⟨hi,tv,h1,h2⟩:=h
 have R:=bV h2
 obtain ⟨PT,nt,rfl⟩:=h2.iface
 obtain ⟨_,c1,_,_⟩:=zau h1
 have HO:=bV hOf
 clear h1 h2 hOf
 go_enter Tryz.func22,Tryz.ntmps22
 go_wp2_with fail
 refine (uh HO _ _ _ (uh R)).mono ?_
 rintro e1 w1 ⟨rfl,hk⟩
 have K:=bV hk
 clear hk
 go_wp2_with fail
 go_ret
 exact ⟨rfl,uh K⟩
theorem IntTyped.said {t:Tw.T} (h:IntTyped t):zrh ShS t [105,110,116]:=fun _ _ _ hr=>yfi hr h
open Go.RowKit Go.Shelf
def Tw.zcd (fp fo:Nat) (l:List UInt8):Option Tw.RR:=if 300<l.length then some (.fault 1 0) else Tw.zk0 fp fo l
def yf4 (w:World) (s:ByteArray) (res:Tw.RR) (e:Ending) (w':World):Prop :=
 match res with
 | .fault k p=>e = .returned (.tuple #[.pointer none,.int .i64 k,.int .i64 p])/\TK w.heap.size WtS w w'
 | .fine t _=>∃bt,e = .returned (.tuple #[.pointer (some ⟨bt,0,none⟩),.int .i64 0,.int .i64 0])/\TextAt w' bt s t/\TK w.heap.size WtS w w'
theorem zuo {fp fo:Nat} {l:List UInt8} {k p:Nat} (h:Tw.zk0 fp fo l=some (.fault k p)):k≠0:=by
 unfold Tw.zk0 at h
 split at h
 ·cases h; omega
 ·simp only [zbE] at h
  obtain ⟨r,_,h⟩:=h
  split at h
  ·cases h; omega
  ·unfold Tw.zgu at h
   split at h
   ·cases h; omega
   ·simp only [zbE] at h
    obtain ⟨k',_,h⟩:=h
    split at h
    ·cases h; omega
    ·simp only [zbE] at h
     obtain ⟨o,_,h⟩:=h
     cases o with
     | none=>cases h; omega
     | some sh=>cases h
theorem zqh (hIB:Said.IndexByte) (hPI:Said.ParseInt) (hIt:Said.ItoaSmall) {s:ByteArray} {fp fo:Nat} {res:Tw.RR} (h:Tw.zcd fp fo s.data.toList=some res) (w:World) :
  Calls Tryz.prog 16 #[.string s] w (yf4 w s res):=by
 unfold Tw.zcd at h
 have hl:s.data.toList.length=s.size:=Array.length_toList
 rw [hl] at h
 by_cases hs:300<s.size
 ·rw [if_pos hs] at h
  cases h
  have hs2:(300:Int)<s.size:=by omega
  go_enter Tryz.func16,Tryz.ntmps16
  go_wp2_with fail
  go_ret3
  exact ⟨rfl,TK.refl _ _ _⟩
 rw [if_neg hs] at h
 obtain ⟨v,W,hc1,hc2,hg⟩:=zkh s w
 have G:=bV hg
 have HR:=bV h
 clear hg h hl
 have hs2:¬(300:Int)<s.size:=by omega
 cases res with
 | fault k p =>
  have hk:=zuo (uh HR)
  have hki:¬(k:Int)=0:=by omega
  go_enter Tryz.func16,Tryz.ntmps16
  go_wp2_with fail
  refine (zqg hIB hPI hIt s (by omega) (uh HR) W).mono ?_
  rintro e1 w1 ⟨rfl,hk⟩
  have K1:Hid (TK w.heap.size WtS w w1):=(TK.of_grown _ _ G.out).trans (hk.base G.out.size)
  clear hk
  go_wp2_with fail
  go_ret3
  exact ⟨rfl,K1.out⟩
 | fine t sh =>
  go_enter Tryz.func16,Tryz.ntmps16
  go_wp2_with fail
  refine (zqg hIB hPI hIt s (by omega) (uh HR) W).mono ?_
  rintro e1 w1 ⟨tv,rfl,hR,hk⟩
  have R1:=bV hR
  obtain ⟨PT,nt,rfl⟩:=hR.iface
  have K1:Hid (TK w.heap.size WtS w w1):=(TK.of_grown _ _ G.out).trans (hk.base G.out.size)
  clear hR hk
  go_wp2_with fail
  go_ret3
  exact ⟨_,rfl,⟨_,_,zad w1 _,(uh R1).grown (zwA _ _ none) (Nat.zero_le _) (znL _)⟩,K1.out.trans (TK.of_grown _ _ (zwA _ _ none))⟩
open Go.RowKit
variable {B : Nat}
def ERep (w:World) (sl:List Nat):Tw.VEnv->Value->Prop
 | [],v=>v = .pointer none
 | (n,k)::o,v=>∃b vo bs,v = .pointer (some ⟨b,0,none⟩)/\sl[k]? = some bs/\w.heap[b]? = some (.cells #[ug n,.pointer (some ⟨bs,0,none⟩),vo] 362 (0,0))/\ERep w sl o vo
def VRep (w:World) (sl:List Nat):Tw.Val->Value->Prop
 | .num n,v=>v = .iface 192 (.int .i64 n) /\ -9223372036854775808<=n/\n<=9223372036854775807
 | .truth b,v=>v = .iface 196 (.bool b)
 | .side b,v=>v = .iface 203 (.agg #[.bool b])
 | .pair l r,v=>∃b v1 v2,v = .iface 315 (.pointer (some ⟨b,0,none⟩))/\w.heap[b]? = some (.cells #[v1,v2] 317 (0,0))/\VRep w sl l v1/\VRep w sl r v2
 | .clo fr to bn bat body env,v=>∃b fb ev v1 hi,v = .iface 216 (.pointer (some ⟨b,0,none⟩))/\w.heap[b]? = some (.cells #[.pointer (some ⟨fb,0,none⟩),ev] 218 (0,0)) /\
  w.heap[fb]? = some (.cells #[.int .i64 (fr:Nat),.int .i64 (to:Nat),ug bn,.int .i64 (bat:Nat),v1] 235 (0,0))/\Rep w 0 hi body v1/\ERep w sl env ev
abbrev RunS:List TypeId:=[311,117]
theorem ERep.tk {w w':World} {sl sl':List Nat} (hk:TK B RunS w w') (hs:sl <+: sl'):∀ {e:Tw.VEnv} {v:Value},ERep w sl e v->ERep w' sl' e v
 | [],_,h=>h
 | (n,k)::o,_,⟨b,vo,bs,hv,hl,hb,ho⟩=>⟨b,vo,bs,hv,by obtain ⟨r,rfl⟩:=hs; rw [List.getElem?_append_left (zlE.1 hl).1]; exact hl,hk.cells hb (by decide),ERep.tk hk hs ho⟩
theorem VRep.tk {w w':World} {sl sl':List Nat} (hk:TK B RunS w w') (hs:sl <+: sl'):∀ {x:Tw.Val} {v:Value},VRep w sl x v->VRep w' sl' x v
 | .num _,_,h=>h
 | .truth _,_,h=>h
 | .side _,_,h=>h
 | .pair _ _,_,⟨b,v1,v2,hv,hb,h1,h2⟩=>⟨b,v1,v2,hv,hk.cells hb (by decide),VRep.tk hk hs h1,VRep.tk hk hs h2⟩
 | .clo ..,_,⟨b,fb,ev,v1,hi,hv,hb,hf,hr,he⟩=>⟨b,fb,ev,v1,hi,hv,hk.cells hb (by decide),hk.cells hf (by decide),hr.kp (hk.kp (by decide)),he.tk hk hs⟩
theorem ERep.ptr {w:World} {sl:List Nat} {e:Tw.VEnv} {v:Value} (h:ERep w sl e v):∃a,v = .pointer a:=by
 cases e with
 | nil=>exact ⟨none,h⟩
 | cons x o=>obtain ⟨b,_,_,hv,_⟩:=h; exact ⟨_,hv⟩
theorem VRep.iface {w:World} {sl:List Nat} {x:Tw.Val} {v:Value} (h:VRep w sl x v):∃T p,v = .iface T p:=by
 cases x with
 | num=>exact ⟨_,_,h.1⟩
 | truth=>exact ⟨_,_,h⟩
 | side=>exact ⟨_,_,h⟩
 | pair=>obtain ⟨_,_,_,h,_⟩:=h; exact ⟨_,_,h⟩
 | clo=>obtain ⟨_,_,_,_,_,h,_⟩:=h; exact ⟨_,_,h⟩
def HRep (w:World) (sl:List Nat):Option Tw.Val->Value->Prop
 | none,v=>v = .nilIface
 | some x,v=>VRep w sl x v
theorem HRep.tk {w w':World} {sl sl':List Nat} (hk:TK B RunS w w') (hs:sl <+: sl'):∀ {x:Option Tw.Val} {v:Value},HRep w sl x v->HRep w' sl' x v
 | none,_,h=>h
 | some _,_,h=>VRep.tk hk hs h
theorem HRep.shape {w:World} {sl:List Nat} {x:Option Tw.Val} {v:Value} (h:HRep w sl x v):v = .nilIface\/∃T p,v = .iface T p:=by
 cases x with
 | none=>exact .inl h
 | some x=>exact .inr (VRep.iface h)
structure RunAt B (w:World) (br bud:Nat) (sl:List Nat) (st:Tw.RS):Prop where
 runner:w.heap[br]? = some (.cells #[.int .i64 bud,.int .i64 st.steps,.int .i64 st.fin] 117 (0,0))
 len:sl.length=st.slots.length
 nodup:sl.Nodup
 slot:∀ {i bs:Nat} {ov:Option Tw.Val},sl[i]? = some bs->st.slots[i]? = some ov->∃hv,w.heap[bs]? = some (.cells #[hv] 311 (0,0))/\HRep w sl ov hv
 steps:st.steps<=bud
 bud:bud<=3000
 lob:B<=br
 los:∀ {i bs:Nat},sl[i]? = some bs->B<=bs
theorem RunAt.keep {w w':World} {br bud:Nat} {sl:List Nat} {st:Tw.RS} (h:RunAt B w br bud sl st) (hk:w.grownBy w' none):RunAt B w' br bud sl st :=
 {h with
  runner:=zbG hk h.runner
  slot:=fun h1 h2=>by
   obtain ⟨hv,a,b⟩:=h.slot h1 h2
   exact ⟨hv,zbG hk a,b.tk (TK.of_grown 0 _ hk) (List.prefix_refl _)⟩}
theorem TK.set {S:List TypeId} {w:World} {b j:Nat} {v:Value} {c:Array Value} {t:TypeId} {m:Nat×Nat} (hb:w.heap[b]? = some (.cells c t m)) (ht:S.contains t=true) (hB:B<=b):TK B S w (w.setCell ⟨b,j,none⟩ v):=by
 refine ⟨fun {k} x _=>heap_setCell_other _ _ _ _ (by simp; omega),rfl,rfl,rfl,by simp,fun {k c' t' m'} x y => ?_,fun {k o} x y => ?_⟩
 ·by_cases hk:k=b
  ·subst hk
   rw [hb] at x
   cases x
   rw [ht] at y
   cases y
  ·rw [heap_setCell_other _ _ _ _ (by simpa using hk)]
   exact x
 ·by_cases hk:k=b
  ·subst hk
   rw [hb] at x
   cases x
   exact absurd rfl (y _ _ _)
  ·rw [heap_setCell_other _ _ _ _ (by simpa using hk)]
   exact x
theorem RunAt.ne {w:World} {br bud:Nat} {sl:List Nat} {st:Tw.RS} (h:RunAt B w br bud sl st) {i bs:Nat} (hs:sl[i]? = some bs):bs≠br:=by
 have hi:i<st.slots.length:=by rw [<-h.len]; exact (zlE.1 hs).1
 obtain ⟨hv,a,_⟩:=h.slot hs (List.getElem?_eq_getElem hi)
 intro e
 subst e
 rw [h.runner] at a
 simp at a
theorem RunAt.setEnd {w:World} {br bud:Nat} {sl:List Nat} {st:Tw.RS} (h:RunAt B w br bud sl st) (k:Int):RunAt B (w.setCell ⟨br,2,none⟩ (.int .i64 k)) br bud sl {st with fin:=k}:=by
 refine {h with runner:=by rw [heap_setCell_same _ _ _ _ _ _ h.runner]; rfl,slot:=fun {i bs ov} h1 h2 => ?_}
 obtain ⟨hv,a,b⟩:=h.slot h1 h2
 exact ⟨hv,by rw [heap_setCell_other _ _ _ _ (by simpa using h.ne h1)]; exact a,b.tk (TK.set h.runner (by decide) h.lob) (List.prefix_refl _)⟩
theorem RunAt.setSteps {w:World} {br bud:Nat} {sl:List Nat} {st:Tw.RS} (h:RunAt B w br bud sl st) (k:Nat) (hk:k<=bud):RunAt B (w.setCell ⟨br,1,none⟩ (.int .i64 k)) br bud sl {st with steps:=k}:=by
 refine {h with runner:=by rw [heap_setCell_same _ _ _ _ _ _ h.runner]; rfl,steps:=hk,slot:=fun {i bs ov} h1 h2 => ?_}
 obtain ⟨hv,a,b⟩:=h.slot h1 h2
 exact ⟨hv,by rw [heap_setCell_other _ _ _ _ (by simpa using h.ne h1)]; exact a,b.tk (TK.set h.runner (by decide) h.lob) (List.prefix_refl _)⟩
theorem RunAt.newSlot {w:World} {br bud:Nat} {sl:List Nat} {st:Tw.RS} (h:RunAt B w br bud sl st) {ov:Option Tw.Val} {hv:Value} (hh:HRep w sl ov hv):RunAt B (w.alloc (.cells #[hv] 311)) br bud (sl ++ [w.heap.size]) {st with slots:=st.slots ++ [ov]}:=by
 have hg:=zwA w (.cells #[hv] 311) none
 have hp:sl <+: sl ++ [w.heap.size]:=List.prefix_append _ _
 refine {runner:=(h.keep hg).runner,len:=by simp [h.len],nodup := ?_,slot:=fun {i bs ov'} h1 h2 => ?_,steps:=h.steps,bud:=h.bud,lob:=h.lob,los:=fun {i bs} h1 => ?_}
 ·rw [List.nodup_append]
  refine ⟨h.nodup,by simp,?_⟩
  intro a ha b hb
  simp only [List.mem_singleton] at hb
  subst hb
  obtain ⟨i,hi⟩:=List.mem_iff_getElem?.1 ha
  have hi':i<st.slots.length:=by rw [<-h.len]; exact (zlE.1 hi).1
  obtain ⟨hv',a',_⟩:=h.slot hi (List.getElem?_eq_getElem hi')
  have:=(zgE.1 a').1
  omega
 ·rcases Nat.lt_or_ge i sl.length with hi | hi
  ·rw [List.getElem?_append_left hi] at h1
   rw [List.getElem?_append_left (by rw [<-h.len]; exact hi)] at h2
   obtain ⟨hv',a,b⟩:=h.slot h1 h2
   exact ⟨hv',zbG hg a,b.tk (TK.of_grown 0 _ hg) hp⟩
  ·have hi2:i=sl.length:=by
    have:=(zlE.1 h1).1
    simp at this
    omega
   subst hi2
   simp only [List.getElem?_concat_length,zsI] at h1
   rw [h.len] at h2
   simp only [List.getElem?_concat_length,zsI] at h2
   subst h1
   subst h2
   exact ⟨hv,zad w _,hh.tk (TK.of_grown 0 _ hg) hp⟩
 ·rcases Nat.lt_or_ge i sl.length with hi | hi
  ·rw [List.getElem?_append_left hi] at h1
   exact h.los h1
  ·have hi2:i=sl.length:=by
    have:=(zlE.1 h1).1
    simp at this
    omega
   subst hi2
   simp only [List.getElem?_concat_length,zsI] at h1
   have:=h.lob
   have:=(zgE.1 h.runner).1
   omega
theorem RunAt.setSlot {w:World} {br bud:Nat} {sl:List Nat} {st:Tw.RS} (h:RunAt B w br bud sl st) {i bs:Nat} (hi:sl[i]? = some bs) {x:Tw.Val} {v:Value} (hx:VRep w sl x v):RunAt B (w.setCell ⟨bs,0,none⟩ v) br bud sl {st with slots:=st.slots.set i (some x)}/\TK B RunS w (w.setCell ⟨bs,0,none⟩ v):=by
 have hi':i<st.slots.length:=by rw [<-h.len]; exact (zlE.1 hi).1
 obtain ⟨hv0,a0,_⟩:=h.slot hi (List.getElem?_eq_getElem hi')
 have K:TK B RunS w (w.setCell ⟨bs,0,none⟩ v):=TK.set a0 (by decide) (h.los hi)
 refine ⟨{h with runner:=by rw [heap_setCell_other _ _ _ _ (by simpa using (h.ne hi).symm)]; exact h.runner,len:=by simpa using h.len,slot:=fun {j bs' ov} h1 h2 => ?_},K⟩
 by_cases hj:j=i
 ·subst hj
  rw [hi] at h1
  cases h1
  simp only [List.getElem?_set_self hi',zsI] at h2
  subst h2
  exact ⟨v,by rw [heap_setCell_same _ _ _ _ _ _ a0]; rfl,VRep.tk K (List.prefix_refl _) hx⟩
 ·simp only [List.getElem?_set_ne (Ne.symm hj)] at h2
  obtain ⟨hv',a,b⟩:=h.slot h1 h2
  have hne:bs'≠bs:=by
   intro e
   subst e
   exact hj ((List.getElem?_inj (zlE.1 h1).1 h.nodup).1 (h1.trans hi.symm))
  exact ⟨hv',by rw [heap_setCell_other _ _ _ _ (by simpa using hne)]; exact a,b.tk K (List.prefix_refl _)⟩
def EvPost (B:Nat) (w:World) (br bud:Nat) (sl:List Nat) (r:Option Tw.Val×Tw.RS) (e:Ending) (w':World):Prop :=
 ∃v sl',e = .returned v/\HRep w' sl' r.1 v/\TK B RunS w w'/\sl <+: sl'/\RunAt B w' br bud sl' r.2
theorem EvPost.from {w w0:World} {br bud:Nat} {sl sl0:List Nat} {r:Option Tw.Val×Tw.RS} {e:Ending} {w':World} (h:EvPost B w br bud sl r e w') (hk:TK B RunS w0 w) (hs:sl0 <+: sl):EvPost B w0 br bud sl0 r e w':=by
 obtain ⟨v,sl',he,hv,hk',hs',hr⟩:=h
 exact ⟨v,sl',he,hv,hk.trans hk',hs.trans hs',hr⟩
theorem zse {w:World} {sl:List Nat} {e:Tw.VEnv} {v:Value} (he:ERep w sl e v) (n:List UInt8) {k bs:Nat} (hk:sl[k]? = some bs) :
  Calls Tryz.prog 170 #[v,ug n,.pointer (some ⟨bs,0,none⟩)] w fun r w'=>∃a,r = .returned (.pointer a)/\w.grownBy w' none/\ERep w' sl ((n,k)::e) (.pointer a):=by
 have HE:=bV he
 have HK:=bV hk
 obtain ⟨a,rfl⟩:=he.ptr
 clear he hk
 go_enter Tryz.func170,Tryz.ntmps170
 go_wp2_with fail
 go_ret
 exact ⟨_,rfl,zwA _ _ none,_,_,_,rfl,uh HK,zad w _,(uh HE).tk (TK.of_grown 0 _ (zwA _ _ none)) (List.prefix_refl _)⟩
theorem yav {w:World} {sl:List Nat} {e:Tw.VEnv} {v:Value} (he:ERep w sl e v) (x:List UInt8) {k:Nat} (hm:Tw.zd6 e x=some k) :
  Calls Tryz.prog 165 #[v,ug x] w fun r w'=>∃bs,sl[k]? = some bs/\r = .returned (.tuple #[.pointer (some ⟨bs,0,none⟩),.bool true])/\w=w':=by
 have HE:=bV he
 have HM:=bV hm
 clear he hm
 go_enter Tryz.func165,Tryz.ntmps165
 go_wp2_with fail
 go_loopg [0] e.length (fun j pv wr=>wr=w/\∃ek:Tw.VEnv,j=ek.length/\Hid (ERep w sl ek pv)/\Hid (Tw.zd6 ek x=some k))
 case atStart=>exact ⟨rfl,e,rfl,HE,HM⟩
 case round =>
  obtain ⟨hw,ek,hks,HK,HL⟩:=hrel
  subst hw
  cases ek with
  | nil=>have:=HL.out; simp [Tw.zd6] at this
  | cons q o =>
   obtain ⟨n,r⟩:=q
   obtain ⟨b,vo,bs,hv,hsl,hb,ho⟩:=HK.out
   obtain ⟨a,rfl⟩:=ho.ptr
   subst hv
   obtain ⟨c0,c1,c2,_⟩:=zaf hb
   have HO:=bV ho
   have HS:=bV hsl
   have hl:=HL.out
   simp only [Tw.zd6] at hl
   clear HK HL hb ho HE HM hsl
   by_cases hn:n=x
   ·rw [if_pos hn] at hl
    simp only [zsI] at hl
    subst hl
    have be:(n==x)=true:=by simp [hn]
    clear hn
    go_wp2_with fail
    go_ret2
    exact ⟨bs,uh HS,rfl,rfl⟩
   ·rw [if_neg hn] at hl
    have be:(n==x)=false:=by simp [hn]
    have HL:=bV hl
    clear hn hl
    go_wp2_with fail
    go_roundg o.length
    case measure=>simp at hks; omega
    case rel=>exact ⟨rfl,o,rfl,HO,HL⟩
theorem zsf {w:World} {br bud:Nat} {sl:List Nat} {st:Tw.RS} (h:RunAt B w br bud sl st) :
  Calls Tryz.prog 166 #[.pointer (some ⟨br,0,none⟩)] w (EvPost B w br bud sl (none,{st with fin:=1})):=by
 have H:=bV h
 obtain ⟨c0,c1,c2,f0,f1,f2⟩:=zaf h.runner
 clear h
 go_enter Tryz.func166,Tryz.ntmps166
 go_wp2_with fail
 go_ret
 exact ⟨_,sl,rfl,rfl,TK.set (uh H).runner (by decide) (uh H).lob,List.prefix_refl _,(uh H).setEnd 1⟩
theorem yaw {w:World} {br bud b n:Nat} {sl:List Nat} {st:Tw.RS} (h:RunAt B w br bud sl st) {fr to:Nat} {x:List UInt8} (hb:w.heap[b]? = some (.cells #[.int .i64 fr,.int .i64 to,ug x] 87 (0,0))) {e:Tw.VEnv} {ev:Value} (he:ERep w sl e ev)
  {r:Option Tw.Val×Tw.RS} (hf:Tw.zap bud (n+1) (.name fr to x) e st=some r) :
  Calls Tryz.prog 88 #[.pointer (some ⟨br,0,none⟩),.pointer (some ⟨b,0,none⟩),ev] w (EvPost B w br bud sl r):=by
 rw [Tw.zap] at hf
 obtain ⟨i,hi,hf⟩:=zbE.1 hf
 have HH:=bV h
 have HE:=bV he
 have HI:=bV hi
 obtain ⟨c0,c1,c2,_⟩:=zaf hb
 obtain ⟨a,rfl⟩:=he.ptr
 clear h he hi hb c0 c1
 go_enter Tryz.func88,Tryz.ntmps88
 go_wp2_with fail
 refine (yav (uh HE) x (uh HI)).mono ?_
 rintro e1 w1 ⟨bs,hbs,rfl,rfl⟩
 cases hs:st.slots[i]? with
 | none=>rw [hs] at hf; simp at hf
 | some ov =>
  rw [hs] at hf
  obtain ⟨hv,hc,hr⟩:=(uh HH).slot hbs hs
  obtain ⟨d0,_⟩:=zag hc
  cases ov with
  | none =>
   simp only [zsI] at hf
   subst hf
   obtain rfl:hv = .nilIface:=hr
   clear hc hbs hs
   go_wp2_with fail
   refine (zsf (uh HH)).mono ?_
   rintro e1 w1 h1
   obtain ⟨v,sl',rfl,hv,hk,hp,hR⟩:=h1
   obtain rfl:v = .nilIface:=hv
   have X:Hid (EvPost B w br bud sl (none,{st with fin:=1}) (.returned .nilIface) w1):=⟨_,sl',rfl,rfl,hk,hp,hR⟩
   clear hk hp hR
   go_wp2_with fail
   go_ret
   exact uh X
  | some y =>
   simp only [zsI] at hf
   subst hf
   have HR:=bV hr
   obtain ⟨T,p,rfl⟩:=VRep.iface hr
   clear hc hbs hs hr
   go_wp2_with fail
   go_ret
   exact ⟨_,sl,rfl,uh HR,TK.refl _ _ _,List.prefix_refl _,uh HH⟩
open Go.RowKit
variable {B : Nat}
def zhu (B n:Nat):Prop:=∀ {w:World} {br bud hi:Nat} {sl:List Nat} {st:Tw.RS} {t:Tw.T} {e:Tw.VEnv} {tv ev:Value} {r:Option Tw.Val×Tw.RS},RunAt B w br bud sl st->Rep w 0 hi t tv->ERep w sl e ev->Tw.zap bud n t e st=some r ->
  Calls Tryz.prog 50 #[.pointer (some ⟨br,0,none⟩),tv,ev] w (EvPost B w br bud sl r)
def yft (w:World) (sl:List Nat):Option (Tw.Val×Tw.Val)->Bool->Value->Value->Prop
 | none,ok,v1,v2=>ok=false/\(v1 = .nilIface\/∃T p,v1 = .iface T p)/\v2 = .nilIface
 | some (x,y),ok,v1,v2=>ok=true/\VRep w sl x v1/\VRep w sl y v2
def yd4 (B:Nat) (w:World) (br bud:Nat) (sl:List Nat) (r:Option (Tw.Val×Tw.Val)×Tw.RS) (e:Ending) (w':World):Prop :=
 ∃v1 v2 ok sl',e = .returned (.tuple #[v1,v2,.bool ok])/\yft w' sl' r.1 ok v1 v2/\TK B RunS w w'/\sl <+: sl'/\RunAt B w' br bud sl' r.2
theorem zqi {n:Nat} (hE:zhu B n) {w:World} {br bud hi:Nat} {sl:List Nat} {st:Tw.RS} {l r:Tw.T} {e:Tw.VEnv} {lv rv ev:Value} {c:Option (Tw.Val×Tw.Val)×Tw.RS} (h:RunAt B w br bud sl st) (hl:Rep w 0 hi l lv) (hr:Rep w 0 hi r rv) (he:ERep w sl e ev) (hf:Tw.zdl bud n l r e st=some c) :
  Calls Tryz.prog 167 #[.pointer (some ⟨br,0,none⟩),lv,rv,ev] w (yd4 B w br bud sl c):=by
 unfold Tw.zdl at hf
 obtain ⟨a,ha,hf⟩:=zbE.1 hf
 have HH:=bV h
 have HL:=bV hl
 have HR:=bV hr
 have HE:=bV he
 have HA:=bV ha
 obtain ⟨T1,k1,rfl⟩:=hl.iface
 obtain ⟨T2,k2,rfl⟩:=hr.iface
 obtain ⟨q,rfl⟩:=he.ptr
 clear h hl hr he ha
 go_enter Tryz.func167,Tryz.ntmps167
 go_wp2_with fail
 refine (hE (uh HH) (uh HL) (uh HE) (uh HA)).mono ?_
 rintro e1 w1 ⟨v1,sl1,rfl,hv1,hk1,hp1,hR1⟩
 obtain ⟨a1,a2⟩:=a
 cases a1 with
 | none =>
  simp only [zsI] at hf
  subst hf
  obtain rfl:v1 = .nilIface:=hv1
  have X:Hid (TK B RunS w w1/\sl <+: sl1/\RunAt B w1 br bud sl1 a2):=⟨hk1,hp1,hR1⟩
  clear hk1 hp1 hR1
  go_wp2_with fail
  go_ret3
  exact ⟨_,_,_,sl1,rfl,⟨rfl,.inl rfl,rfl⟩,X.out⟩
 | some x =>
  simp only at hf
  obtain ⟨b,hb,hf⟩:=zbE.1 hf
  have HB:=bV hb
  have V1:Hid (VRep w1 sl1 x v1):=hv1
  have K1:=bV hk1
  have P1:=bV hp1
  have R1:=bV hR1
  obtain ⟨T3,p3,rfl⟩:=VRep.iface hv1
  clear hv1 hk1 hp1 hR1 hb
  go_wp2_with fail
  refine (hE (uh R1) ((uh HR).kp ((uh K1).kp (by decide))) ((uh HE).tk (uh K1) (uh P1)) (uh HB)).mono ?_
  rintro e1 w2 ⟨v2,sl2,rfl,hv2,hk2,hp2,hR2⟩
  have D2:Hid (TK B RunS w2 w2.drew):=TK.of_grown _ _ (zac (zab _))
  have X:Hid (TK B RunS w w2.drew/\sl <+: sl2/\RunAt B w2.drew br bud sl2 b.2):=⟨((uh K1).trans hk2).trans D2.out,(uh P1).trans hp2,hR2.keep (zac (zab _))⟩
  have V2:=bV (((uh V1).tk hk2 hp2).tk D2.out (List.prefix_refl _))
  obtain ⟨b1,b2⟩:=b
  cases b1 with
  | none =>
   simp only [zsI] at hf
   subst hf
   obtain rfl:v2 = .nilIface:=hv2
   clear hk2 hp2 hR2
   go_wp2_with fail
   go_region
   go_wp2_with fail
   go_ret3
   exact ⟨_,_,_,sl2,rfl,⟨rfl,.inr ⟨_,_,rfl⟩,rfl⟩,X.out⟩
  | some y =>
   simp only [zsI] at hf
   subst hf
   have V3:Hid (VRep w2.drew sl2 y v2):=VRep.tk D2.out (List.prefix_refl _) hv2
   obtain ⟨T4,p4,rfl⟩:=VRep.iface hv2
   clear hv2 hk2 hp2 hR2
   go_wp2_with fail
   go_region
   go_wp2_with fail
   go_ret3
   exact ⟨_,_,_,sl2,rfl,⟨rfl,uh V2,uh V3⟩,X.out⟩
theorem zhz {w:World} {b:Nat} {x y z u:Value} {t:TypeId} (h:w.heap[b]? = some (.cells #[x,y,z,u] t (0,0))):w.cell? ⟨b,2,none⟩=some z/\w.cell? ⟨b,3,none⟩=some u:=by
 constructor <;> (rw [cell_of_row w b _ _ _ _ h]; rfl)
theorem yax {n:Nat} (hE:zhu B n) {w:World} {br bud hi b:Nat} {sl:List Nat} {st:Tw.RS} {l r:Tw.T} {e:Tw.VEnv} {lv rv ev:Value} {fr to:Nat} {c:Option Tw.Val×Tw.RS} (h:RunAt B w br bud sl st)
    (hb:w.heap[b]? = some (.cells #[.int .i64 fr,.int .i64 to,lv,rv] 229 (0,0))) (hl:Rep w 0 hi l lv) (hr:Rep w 0 hi r rv) (he:ERep w sl e ev) (hf:Tw.zap bud (n+1) (.pair fr to l r) e st=some c) :
    Calls Tryz.prog 89 #[.pointer (some ⟨br,0,none⟩),.pointer (some ⟨b,0,none⟩),ev] w (EvPost B w br bud sl c):=by
  rw [Tw.zdy] at hf
  obtain ⟨a,ha,hf⟩:=zbE.1 hf
  have HH:=bV h
  have HL:=bV hl
  have HR:=bV hr
  have HE:=bV he
  have HA:=bV ha
  have B0:=bV hb
  obtain ⟨T1,k1,rfl⟩:=hl.iface
  obtain ⟨T2,k2,rfl⟩:=hr.iface
  obtain ⟨q,rfl⟩:=he.ptr
  obtain ⟨c2,c3⟩:=zhz hb
  have D1:Hid (w.grownBy w.drew none):=zac (zab _)
  clear h hl hr he ha hb
  go_enter Tryz.func89,Tryz.ntmps89
  go_wp2_with fail
  go_region_held3 (fun W=>W.cell? ⟨b,2,none⟩=some (.iface T1 (.pointer (some ⟨k1,0,none⟩)))/\W.cell? ⟨b,3,none⟩=some (.iface T2 (.pointer (some ⟨k2,0,none⟩)))) (go_keep)
    ((go_at_call 167; refine (zqi hE ((uh HH).keep D1.out) ((uh HL).grown D1.out (znL _) (znL _)) ((uh HR).grown D1.out (znL _) (znL _)) ((uh HE).tk (TK.of_grown 0 _ D1.out) (List.prefix_refl _)) (uh HA)).mono ?_; rintro e1 w1 ⟨v1,v2,ok,sl1,rfl,hm,hk,hp,hR⟩
      have K1:Hid (TK B RunS w w1):=(TK.of_grown _ _ D1.out).trans hk
      have P1:=bV hp
      have R1:=bV hR
      have HM:=bV hm
      obtain ⟨d2,d3⟩:=zhz (K1.out.cells B0.out (by decide))
      clear hk hp hR hm))
  obtain ⟨a1,a2⟩:=a
  cases a1 with
  | none =>
    obtain ⟨rfl,h1,rfl⟩:=HM.out
    simp only [zsI] at hf
    subst hf
    go_wp2_with fail
    go_ret
    exact ⟨_,sl1,rfl,rfl,K1.out,uh P1,uh R1⟩
  | some xy =>
    obtain ⟨x,y⟩:=xy
    obtain ⟨rfl,h1,h2⟩:=HM.out
    simp only [zsI] at hf
    subst hf
    have V1:=bV h1
    have V2:=bV h2
    obtain ⟨T3,p3,rfl⟩:=VRep.iface h1
    obtain ⟨T4,p4,rfl⟩:=VRep.iface h2
    clear h1 h2 HM
    go_wp2_with fail
    go_ret
    have G:=zwA w1 (.cells #[.iface T3 p3,.iface T4 p4] 317) none
    exact ⟨_,sl1,rfl,⟨_,_,_,rfl,zad w1 _,(uh V1).tk (TK.of_grown 0 _ G) (List.prefix_refl _),(uh V2).tk (TK.of_grown 0 _ G) (List.prefix_refl _)⟩,K1.out.trans (TK.of_grown _ _ G),uh P1,(uh R1).keep G⟩
open Go.RowKit
variable {B : Nat}
theorem zxh (p:Value) (w:World):Sem.run Tryz.prog (Instr.typeAssert (.iface 192 p) 119 216 true) w = .ok (.tuple #[.pointer none,.bool false]) w:=by kernel_rfl
theorem zup (p:Value) (w:World):Sem.run Tryz.prog (Instr.typeAssert (.iface 192 p) 119 203 true) w = .ok (.tuple #[.agg #[.bool false],.bool false]) w:=by kernel_rfl
theorem zuq (p:Value) (w:World):Sem.run Tryz.prog (Instr.typeAssert (.iface 192 p) 119 315 true) w = .ok (.tuple #[.pointer none,.bool false]) w:=by kernel_rfl
theorem zqj (p:Value) (w:World):Sem.run Tryz.prog (Instr.typeAssert (.iface 192 p) 119 192 true) w = .ok (.tuple #[p,.bool true]) w:=by kernel_rfl
theorem zs9 (p:Value) (w:World):Sem.run Tryz.prog (Instr.typeAssert (.iface 196 p) 119 216 true) w = .ok (.tuple #[.pointer none,.bool false]) w:=by kernel_rfl
theorem zrp (p:Value) (w:World):Sem.run Tryz.prog (Instr.typeAssert (.iface 196 p) 119 203 true) w = .ok (.tuple #[.agg #[.bool false],.bool false]) w:=by kernel_rfl
theorem zrq (p:Value) (w:World):Sem.run Tryz.prog (Instr.typeAssert (.iface 196 p) 119 315 true) w = .ok (.tuple #[.pointer none,.bool false]) w:=by kernel_rfl
theorem zm0 (p:Value) (w:World):Sem.run Tryz.prog (Instr.typeAssert (.iface 196 p) 119 192 true) w = .ok (.tuple #[.int .i64 0,.bool false]) w:=by kernel_rfl
theorem zo0 (p:Value) (w:World):Sem.run Tryz.prog (Instr.typeAssert (.iface 203 p) 119 216 true) w = .ok (.tuple #[.pointer none,.bool false]) w:=by kernel_rfl
theorem zm2 (p:Value) (w:World):Sem.run Tryz.prog (Instr.typeAssert (.iface 203 p) 119 203 true) w = .ok (.tuple #[p,.bool true]) w:=by kernel_rfl
theorem zm3 (p:Value) (w:World):Sem.run Tryz.prog (Instr.typeAssert (.iface 203 p) 119 315 true) w = .ok (.tuple #[.pointer none,.bool false]) w:=by kernel_rfl
theorem zo1 (p:Value) (w:World):Sem.run Tryz.prog (Instr.typeAssert (.iface 203 p) 119 192 true) w = .ok (.tuple #[.int .i64 0,.bool false]) w:=by kernel_rfl
theorem zur (p:Value) (w:World):Sem.run Tryz.prog (Instr.typeAssert (.iface 315 p) 119 216 true) w = .ok (.tuple #[.pointer none,.bool false]) w:=by kernel_rfl
theorem zta (p:Value) (w:World):Sem.run Tryz.prog (Instr.typeAssert (.iface 315 p) 119 203 true) w = .ok (.tuple #[.agg #[.bool false],.bool false]) w:=by kernel_rfl
theorem zm4 (p:Value) (w:World):Sem.run Tryz.prog (Instr.typeAssert (.iface 315 p) 119 315 true) w = .ok (.tuple #[p,.bool true]) w:=by kernel_rfl
theorem zo2 (p:Value) (w:World):Sem.run Tryz.prog (Instr.typeAssert (.iface 315 p) 119 192 true) w = .ok (.tuple #[.int .i64 0,.bool false]) w:=by kernel_rfl
theorem zqk (p:Value) (w:World):Sem.run Tryz.prog (Instr.typeAssert (.iface 216 p) 119 216 true) w = .ok (.tuple #[p,.bool true]) w:=by kernel_rfl
theorem zus (p:Value) (w:World):Sem.run Tryz.prog (Instr.typeAssert (.iface 216 p) 119 203 true) w = .ok (.tuple #[.agg #[.bool false],.bool false]) w:=by kernel_rfl
theorem zo3 (p:Value) (w:World):Sem.run Tryz.prog (Instr.typeAssert (.iface 216 p) 119 315 true) w = .ok (.tuple #[.pointer none,.bool false]) w:=by kernel_rfl
theorem zql (p:Value) (w:World):Sem.run Tryz.prog (Instr.typeAssert (.iface 216 p) 119 192 true) w = .ok (.tuple #[.int .i64 0,.bool false]) w:=by kernel_rfl
theorem ycs {w:World} {sl:List Nat} {y:Tw.Val} {yv:Value} (hy:VRep w sl y yv) (sec:Bool) :
  Calls Tryz.prog 208 #[yv,.agg #[.bool sec]] w fun e w'=>∃v,e = .returned v/\HRep w' sl (Tw.znw y sec) v/\w.grownBy w' none:=by
 cases y with
 | num m =>
  obtain ⟨rfl,_⟩:=hy
  have q:=zuq
  go_enter Tryz.func208,Tryz.ntmps208
  go_wp2_with fail
  go_ret
  exact ⟨_,rfl,rfl,zwA _ _ none⟩
 | truth m =>
  obtain rfl:yv=_:=hy
  have q:=zrq
  go_enter Tryz.func208,Tryz.ntmps208
  go_wp2_with fail
  go_ret
  exact ⟨_,rfl,rfl,zwA _ _ none⟩
 | side m =>
  obtain rfl:yv=_:=hy
  have q:=zm3
  go_enter Tryz.func208,Tryz.ntmps208
  go_wp2_with fail
  go_ret
  exact ⟨_,rfl,rfl,zwA _ _ none⟩
 | clo fr to bn bat body env =>
  obtain ⟨b,fb,ev,v1,hi,rfl,_⟩:=hy
  have q:=zo3
  go_enter Tryz.func208,Tryz.ntmps208
  go_wp2_with fail
  go_ret
  exact ⟨_,rfl,rfl,zwA _ _ none⟩
 | pair l r =>
  obtain ⟨b,v1,v2,rfl,hb,h1,h2⟩:=hy
  have q:=zm4
  have V1:=bV h1
  have V2:=bV h2
  obtain ⟨T1,p1,rfl⟩:=VRep.iface h1
  obtain ⟨T2,p2,rfl⟩:=VRep.iface h2
  obtain ⟨c0,c1,_,_⟩:=zau hb
  have hbl:b<w.heap.size:=(zgE.1 hb).1
  clear h1 h2 hb
  cases sec
  ·go_enter Tryz.func208,Tryz.ntmps208
   go_wp2_with fail
   go_ret
   exact ⟨_,rfl,(uh V1).tk (TK.of_grown 0 _ (zwA _ _ none)) (List.prefix_refl _),zwA _ _ none⟩
  ·go_enter Tryz.func208,Tryz.ntmps208
   go_wp2_with fail
   go_ret
   exact ⟨_,rfl,(uh V2).tk (TK.of_grown 0 _ (zwA _ _ none)) (List.prefix_refl _),zwA _ _ none⟩
end Go.Proofs.YtckhafpejefbbaaGreatDoor
