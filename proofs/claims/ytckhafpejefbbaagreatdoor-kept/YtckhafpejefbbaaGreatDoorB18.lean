/- Texts of the proof, put together: NodesIt. -/
import Derived.Test.YtckhafpejefbbaaGreatDoorB13
import Derived.Test.YtckhafpejefbbaaGreatDoorB17
import Derived.LoopIn
import Derived.LoopNIn

set_option maxRecDepth 100000
set_option maxHeartbeats 4000000
namespace Go.Proofs.YtckhafpejefbbaaGreatDoor
open Go.RowKit Go.Shelf
attribute [local go_sem] Oper.semAt_some
structure TN where
 t:Tw.T
 v:Value
def NDL (w:World) (hi:Nat):Tw.T->Value->List TN->Prop
 | .name fr to tx,v,L=>nodeAt w 0 hi fr to [ug tx] 83 87 v/\L=[⟨.name fr to tx,v⟩]
 | .int fr to n,v,L=>nodeAt w 0 hi fr to [.int .i64 n] 191 194 v/\L=[⟨.int fr to n,v⟩]
 | .truth fr to b,v,L=>nodeAt w 0 hi fr to [.bool b] 195 198 v/\L=[⟨.truth fr to b,v⟩]
 | .side fr to b,v,L=>nodeAt w 0 hi fr to [.bool b] 199 201 v/\L=[⟨.side fr to b,v⟩]
 | .bracket fr to i,v,L=>∃v1 L1,nodeAt w 0 hi fr to [v1] 204 206 v/\NDL w hi i v1 L1/\L=⟨.bracket fr to i,v⟩::L1
 | .pair fr to l r,v,L=>∃v1 v2 L1 L2,nodeAt w 0 hi fr to [v1,v2] 207 229 v/\NDL w hi l v1 L1/\NDL w hi r v2 L2/\L=⟨.pair fr to l r,v⟩::(L1++L2)
 | .call fr to l r,v,L=>∃v1 v2 L1 L2,nodeAt w 0 hi fr to [v1,v2] 209 319 v/\NDL w hi l v1 L1/\NDL w hi r v2 L2/\L=⟨.call fr to l r,v⟩::(L1++L2)
 | .binary fr to sg l r,v,L=>∃v1 v2 L1 L2,nodeAt w 0 hi fr to [.int .i64 sg,v1,v2] 211 322 v/\NDL w hi l v1 L1/\NDL w hi r v2 L2/\L=⟨.binary fr to sg l r,v⟩::(L1++L2)
 | .cond fr to c t f,v,L=>∃v1 v2 v3 L1 L2 L3,nodeAt w 0 hi fr to [v1,v2,v3] 213 326 v/\NDL w hi c v1 L1/\NDL w hi t v2 L2/\NDL w hi f v3 L3/\L=⟨.cond fr to c t f,v⟩::(L1++(L2++L3))
 | .fn fr to bn bat b,v,L=>∃v1 L1,nodeAt w 0 hi fr to [ug bn,.int .i64 bat,v1] 215 235 v/\NDL w hi b v1 L1/\L=⟨.fn fr to bn bat b,v⟩::L1
 | .lett fr to rc bn bat d b,v,L=>∃v1 v2 L1 L2,nodeAt w 0 hi fr to [.bool rc,ug bn,.int .i64 bat,v1,v2] 136 140 v/\NDL w hi d v1 L1/\NDL w hi b v2 L2/\L=⟨.lett fr to rc bn bat d b,v⟩::(L1++L2)
theorem NDL.of_rep {w:World} {hi:Nat}:∀ {t:Tw.T} {v:Value},Rep w 0 hi t v->∃L,NDL w hi t v L
 | .name ..,_,h=>⟨_,h,rfl⟩
 | .int ..,_,h=>⟨_,h,rfl⟩
 | .truth ..,_,h=>⟨_,h,rfl⟩
 | .side ..,_,h=>⟨_,h,rfl⟩
 | .bracket ..,_,⟨v1,h,r1⟩=>let ⟨L,n1⟩:=NDL.of_rep r1; ⟨_,v1,L,h,n1,rfl⟩
 | .pair ..,_,⟨v1,v2,h,r1,r2⟩=>let ⟨L1,n1⟩:=NDL.of_rep r1; let ⟨L2,n2⟩:=NDL.of_rep r2; ⟨_,v1,v2,L1,L2,h,n1,n2,rfl⟩
 | .call ..,_,⟨v1,v2,h,r1,r2⟩=>let ⟨L1,n1⟩:=NDL.of_rep r1; let ⟨L2,n2⟩:=NDL.of_rep r2; ⟨_,v1,v2,L1,L2,h,n1,n2,rfl⟩
 | .binary ..,_,⟨v1,v2,h,r1,r2⟩=>let ⟨L1,n1⟩:=NDL.of_rep r1; let ⟨L2,n2⟩:=NDL.of_rep r2; ⟨_,v1,v2,L1,L2,h,n1,n2,rfl⟩
 | .cond ..,_,⟨v1,v2,v3,h,r1,r2,r3⟩=>let ⟨L1,n1⟩:=NDL.of_rep r1; let ⟨L2,n2⟩:=NDL.of_rep r2; let ⟨L3,n3⟩:=NDL.of_rep r3; ⟨_,v1,v2,v3,L1,L2,L3,h,n1,n2,n3,rfl⟩
 | .fn ..,_,⟨v1,h,r1⟩=>let ⟨L,n1⟩:=NDL.of_rep r1; ⟨_,v1,L,h,n1,rfl⟩
 | .lett ..,_,⟨v1,v2,h,r1,r2⟩=>let ⟨L1,n1⟩:=NDL.of_rep r1; let ⟨L2,n2⟩:=NDL.of_rep r2; ⟨_,v1,v2,L1,L2,h,n1,n2,rfl⟩
theorem NDL.rep {w:World} {hi:Nat}:∀ {t:Tw.T} {v:Value} {L:List TN},NDL w hi t v L->Rep w 0 hi t v/\∀x∈L,Rep w 0 hi x.t x.v
 | .name ..,_,_,⟨h,e⟩=>⟨h,by subst e; intro x hx; simp only [List.mem_singleton] at hx; subst hx; exact h⟩
 | .int ..,_,_,⟨h,e⟩=>⟨h,by subst e; intro x hx; simp only [List.mem_singleton] at hx; subst hx; exact h⟩
 | .truth ..,_,_,⟨h,e⟩=>⟨h,by subst e; intro x hx; simp only [List.mem_singleton] at hx; subst hx; exact h⟩
 | .side ..,_,_,⟨h,e⟩=>⟨h,by subst e; intro x hx; simp only [List.mem_singleton] at hx; subst hx; exact h⟩
 | .bracket ..,_,_,⟨v1,L1,h,n1,e⟩=>by
  obtain ⟨r1,a1⟩:=NDL.rep n1
  subst e
  refine ⟨⟨v1,h,r1⟩,fun x hx => ?_⟩
  simp only [zmC] at hx
  rcases hx with rfl | hx
  ·exact ⟨v1,h,r1⟩
  ·exact a1 x hx
 | .pair ..,_,_,⟨v1,v2,L1,L2,h,n1,n2,e⟩=>by
  obtain ⟨r1,a1⟩:=NDL.rep n1
  obtain ⟨r2,a2⟩:=NDL.rep n2
  subst e
  refine ⟨⟨v1,v2,h,r1,r2⟩,fun x hx => ?_⟩
  simp only [zmC,zmA] at hx
  rcases hx with rfl | hx | hx
  ·exact ⟨v1,v2,h,r1,r2⟩
  ·exact a1 x hx
  ·exact a2 x hx
 | .call ..,_,_,⟨v1,v2,L1,L2,h,n1,n2,e⟩=>by
  obtain ⟨r1,a1⟩:=NDL.rep n1
  obtain ⟨r2,a2⟩:=NDL.rep n2
  subst e
  refine ⟨⟨v1,v2,h,r1,r2⟩,fun x hx => ?_⟩
  simp only [zmC,zmA] at hx
  rcases hx with rfl | hx | hx
  ·exact ⟨v1,v2,h,r1,r2⟩
  ·exact a1 x hx
  ·exact a2 x hx
 | .binary ..,_,_,⟨v1,v2,L1,L2,h,n1,n2,e⟩=>by
  obtain ⟨r1,a1⟩:=NDL.rep n1
  obtain ⟨r2,a2⟩:=NDL.rep n2
  subst e
  refine ⟨⟨v1,v2,h,r1,r2⟩,fun x hx => ?_⟩
  simp only [zmC,zmA] at hx
  rcases hx with rfl | hx | hx
  ·exact ⟨v1,v2,h,r1,r2⟩
  ·exact a1 x hx
  ·exact a2 x hx
 | .cond ..,_,_,⟨v1,v2,v3,L1,L2,L3,h,n1,n2,n3,e⟩=>by
  obtain ⟨r1,a1⟩:=NDL.rep n1
  obtain ⟨r2,a2⟩:=NDL.rep n2
  obtain ⟨r3,a3⟩:=NDL.rep n3
  subst e
  refine ⟨⟨v1,v2,v3,h,r1,r2,r3⟩,fun x hx => ?_⟩
  simp only [zmC,zmA] at hx
  rcases hx with rfl | hx | hx | hx
  ·exact ⟨v1,v2,v3,h,r1,r2,r3⟩
  ·exact a1 x hx
  ·exact a2 x hx
  ·exact a3 x hx
 | .fn ..,_,_,⟨v1,L1,h,n1,e⟩=>by
  obtain ⟨r1,a1⟩:=NDL.rep n1
  subst e
  refine ⟨⟨v1,h,r1⟩,fun x hx => ?_⟩
  simp only [zmC] at hx
  rcases hx with rfl | hx
  ·exact ⟨v1,h,r1⟩
  ·exact a1 x hx
 | .lett ..,_,_,⟨v1,v2,L1,L2,h,n1,n2,e⟩=>by
  obtain ⟨r1,a1⟩:=NDL.rep n1
  obtain ⟨r2,a2⟩:=NDL.rep n2
  subst e
  refine ⟨⟨v1,v2,h,r1,r2⟩,fun x hx => ?_⟩
  simp only [zmC,zmA] at hx
  rcases hx with rfl | hx | hx
  ·exact ⟨v1,v2,h,r1,r2⟩
  ·exact a1 x hx
  ·exact a2 x hx
theorem NDL.kp {w w':World} {hi:Nat} (hk:Kp w w'):∀ {t:Tw.T} {v:Value} {L:List TN},NDL w hi t v L->NDL w' hi t v L
 | .name ..,_,_,⟨h,e⟩=>⟨h.kp hk (by decide),e⟩
 | .int ..,_,_,⟨h,e⟩=>⟨h.kp hk (by decide),e⟩
 | .truth ..,_,_,⟨h,e⟩=>⟨h.kp hk (by decide),e⟩
 | .side ..,_,_,⟨h,e⟩=>⟨h.kp hk (by decide),e⟩
 | .bracket ..,_,_,⟨v1,L1,h,n1,e⟩=>⟨v1,L1,h.kp hk (by decide),NDL.kp hk n1,e⟩
 | .pair ..,_,_,⟨v1,v2,L1,L2,h,n1,n2,e⟩=>⟨v1,v2,L1,L2,h.kp hk (by decide),NDL.kp hk n1,NDL.kp hk n2,e⟩
 | .call ..,_,_,⟨v1,v2,L1,L2,h,n1,n2,e⟩=>⟨v1,v2,L1,L2,h.kp hk (by decide),NDL.kp hk n1,NDL.kp hk n2,e⟩
 | .binary ..,_,_,⟨v1,v2,L1,L2,h,n1,n2,e⟩=>⟨v1,v2,L1,L2,h.kp hk (by decide),NDL.kp hk n1,NDL.kp hk n2,e⟩
 | .cond ..,_,_,⟨v1,v2,v3,L1,L2,L3,h,n1,n2,n3,e⟩=>⟨v1,v2,v3,L1,L2,L3,h.kp hk (by decide),NDL.kp hk n1,NDL.kp hk n2,NDL.kp hk n3,e⟩
 | .fn ..,_,_,⟨v1,L1,h,n1,e⟩=>⟨v1,L1,h.kp hk (by decide),NDL.kp hk n1,e⟩
 | .lett ..,_,_,⟨v1,v2,L1,L2,h,n1,n2,e⟩=>⟨v1,v2,L1,L2,h.kp hk (by decide),NDL.kp hk n1,NDL.kp hk n2,e⟩
theorem NDL.iface {w:World} {hi:Nat} {t:Tw.T} {v:Value} {L:List TN} (h:NDL w hi t v L):∃T n,v = .iface T (.pointer (some ⟨n,0,none⟩)):=h.rep.1.iface
structure zpw (l:Nat) (L0:List TN) (J Jx:List TN->World->Prop):Prop where
 grown:∀ {s:List TN} {W W':World},J s W->W.grownBy W' none->J s W'
 yield:∀(pre:List TN) (x:TN) (W:World),J pre W->(pre ++ [x]) <+: L0->YieldAt Fence.wide 0 Tryz.prog l #[x.v] W fun e W' =>
  (e = .returned (.bool true)/\J (pre ++ [x]) W'/\Kp W W')\/(e = .returned (.bool false)/\Jx (pre ++ [x]) W')
def zzo (J Jx:List TN->World->Prop) (pre L:List TN) (w:World) (r:Ending) (w':World):Prop :=
 (r = .returned (.bool true)/\J (pre++L) w'/\Kp w w')\/(r = .returned (.bool false)/\∃q,q <+: L/\Jx (pre++q) w')
def yff (l:Nat) (L0:List TN) (J Jx:List TN->World->Prop) (t:Tw.T):Prop:=∀ {w:World} {hi:Nat} {tv:Value} {pre L:List TN},NDL w hi t tv L->J pre w->(pre++L) <+: L0 ->
 Calls Tryz.prog 109 #[tv,zdb l] w (zzo J Jx pre L w)
def zd7 (Ls:List (List TN)) (q:Nat):List TN:=(Ls.take q).flatten
theorem zxw (Ls:List (List TN)) (q:Nat) (h:q<Ls.length):zd7 Ls (q+1)=zd7 Ls q++Ls[q]:=by
 unfold zd7
 rw [List.take_succ_eq_append_getElem h,List.flatten_append]
 simp
variable {l : Nat} {L0 : List TN} {J Jx : List TN -> World -> Prop}
theorem zc9 (hY:zpw l L0 J Jx) {PT:TypeId} {w:World} {b:Nat} {x:TN} (hx:x.v = .iface PT (.pointer (some ⟨b,0,none⟩))) {vs:List Value} {Ls:List (List TN)} {pre:List TN}
  (hP:∀W,Kp w W->Calls Tryz.prog 162 #[.iface PT (.pointer (some ⟨b,0,none⟩))] W (zbw W vs))
  (hlen:vs.length=Ls.length) (hl3:Ls.length<=3) (hK:∀j (h1:j<vs.length) (h2:j<Ls.length),(∃T n,vs[j] = .iface T (.pointer (some ⟨n,0,none⟩)))/\∀W,Kp w W->J ((pre ++ [x])++zd7 Ls j) W->Calls Tryz.prog 109 #[vs[j],zdb l] W (zzo J Jx ((pre ++ [x])++zd7 Ls j) Ls[j] W))
  (hJ:J pre w) (hp:pre++(x::Ls.flatten) <+: L0) :
  Calls Tryz.prog 109 #[.iface PT (.pointer (some ⟨b,0,none⟩)),zdb l] w (zzo J Jx pre (x::Ls.flatten) w):=by
 have HP:=bV hP
 have HK:=bV hK
 have hp1:pre ++ [x] <+: L0:=by
  obtain ⟨r,hr⟩:=hp
  exact ⟨Ls.flatten++r,by rw [<-hr]; simp [List.append_assoc]⟩
 obtain ⟨fn,tmps,assign,body,hy,hR⟩:=hY.yield pre x w hJ hp1
 rw [hx] at hy
 have HR:=bV hR
 clear hP hK hJ hR hp hp1
 refine (callsIn_wide (n:=1)).1 ?_
 refine callsIn_of_wp Tryz.func109 rfl trivial ?_
 simp only [Tryz.ntmps109,List.size_toArray,List.length_cons,List.length_nil,Nat.reduceAdd,Nat.reduceSub,Array.replicate_succ,Array.replicate_zero,List.push_toArray,List.append_toArray,List.nil_append,List.cons_append]
 gi_wp2_with fail
 (try refine ⟨fun h=>(by cases h),?_⟩)
 refine (uh HR).mono ?_
 rintro e2 W2 (⟨rfl,hJ2,hk2⟩ | ⟨rfl,hx2⟩)
 ·have J2:=bV hJ2
  have K2:=bV hk2
  clear hJ2 hk2 HR hy
  gi_wp2_with fail
  refine ⟨trivial,?_⟩
  refine (callsIn_wide.2 (uh HP W2 (uh K2))).mono ?_
  rintro e1 w1 ⟨hg,hcase⟩
  have J1:Hid (J (pre ++ [x]) w1):=hY.grown (uh J2) hg
  have K1:Hid (Kp w w1):=(uh K2).trans (Kp.of_grown hg)
  clear hg J2 K2 HP
  rcases hcase with ⟨rfl,rfl⟩ | ⟨k,rfl,hk⟩
  ·have hk0:Ls=[]:=by simpa using hlen.symm
   subst hk0
   gi_wp2_with fail
   gi_loopw [14] (fun iv wr=>iv = .int .i64 0/\wr=w1) (fun _ _=>0)
   case atStart=>exact ⟨rfl,rfl⟩
   case round =>
    obtain ⟨rfl,rfl⟩:=hrel
    gi_wp2_with fail
    go_ret
    exact .inl ⟨rfl,by simpa using J1.out,K1.out⟩
  ·have C1:Hid (w1.heap[k]? = some (.cells (zht vs) 68 (0,0))):=hk
   clear hk
   have c65:Tryz.prog.cellsOf 68=1:=by kernel_rfl
   obtain ⟨N,hV⟩:∃N,vs.length=N:=⟨_,rfl⟩
   rw [hV]
   have HV:=bV hV
   have hLN:N=Ls.length:=by omega
   have HLN:=bV hLN
   have hN3:N<=3:=by omega
   clear hV hlen hLN
   gi_wp2_with fail
   gi_loopw [14] (fun iv wr=>∃q:Nat,q<=N/\iv = .int .i64 q/\Hid (J ((pre ++ [x])++zd7 Ls q) wr)/\Hid (Kp w1 wr)) (fun iv _=>N-(intOf iv).toNat)
   case atStart=>exact ⟨0,by omega,rfl,by simpa [zd7] using J1,Kp.refl _⟩
   case round =>
    obtain ⟨q,hq,rfl,JR,KR⟩:=hrel
    by_cases hlt:q<N
    ·have h1:q<vs.length:=by rw [uh HV]; exact hlt
     have h2:q<Ls.length:=by rw [<-uh HLN]; exact hlt
     obtain ⟨⟨T,nn,hv⟩,hks⟩:=uh HK q h1 h2
     rw [hv] at hks
     have hc:wr.cell? ⟨k,q,none⟩=some (.iface T (.pointer (some ⟨nn,0,none⟩))):=by
      rw [cell_of_row wr k _ _ _ _ (KR.out _ _ _ _ C1.out (by decide))]
      simp [zht,h1,hv]
     have hqi:(q:Int)<(N:Int):=by omega
     have KS:=bV (hks wr (K1.out.trans KR.out) JR.out)
     have hss:=bV (zxw Ls q h2)
     have HL:Hid (zd7 Ls q++Ls[q] <+: Ls.flatten):=by
      show _ <+: _
      rw [<-uh hss]
      exact ⟨(Ls.drop (q+1)).flatten,by unfold zd7; rw [<-List.flatten_append,List.take_append_drop]⟩
     generalize Ls[q]=Lq at *
     clear hks hv h1 h2
     gi_wp2_with fail
     refine ⟨trivial,?_⟩
     refine (callsIn_wide.2 (uh KS)).mono ?_
     rintro e2 w2 (⟨rfl,hj2,hk2⟩ | ⟨rfl,p,hp,hx⟩)
     ·have J2:Hid (J ((pre ++ [x])++zd7 Ls (q+1)) w2):=by show J _ _; rw [uh hss,<-List.append_assoc]; exact hj2
      have K2:Hid (Kp w1 w2):=KR.out.trans hk2
      clear hj2 hk2
      gi_wp2_with fail
      go_roundw
      case measure=>simp [intOf]; omega
      case rel=>exact ⟨q+1,by omega,by go_num,J2,K2⟩
     ·have X:Hid (∃p',p' <+: x::Ls.flatten/\Jx (pre++p') w2):=by
       refine ⟨[x]++(zd7 Ls q++p),?_,by rw [<-List.append_assoc,<-List.append_assoc]; exact hx⟩
       obtain ⟨r,hr⟩:=hp
       obtain ⟨r',hr'⟩:=uh HL
       exact ⟨r++r',by rw [<-hr',<-hr]; simp [List.append_assoc]⟩
      clear hp hx
      gi_wp2_with fail
      go_ret
      exact .inr ⟨rfl,X.out⟩
    ·have hqN:q=N:=by omega
     have J2:Hid (J (pre++(x::Ls.flatten)) wr):=by
      have:=JR.out
      rw [hqN,uh HLN] at this
      unfold zd7 at this
      rw [List.take_length,List.append_assoc] at this
      exact this
     clear hqN
     gi_wp2_with fail
     go_ret
     exact .inl ⟨rfl,J2.out,K1.out.trans KR.out⟩
 ·gi_wp2
  go_ret
  exact .inr ⟨rfl,[x],⟨Ls.flatten,by simp⟩,hx2⟩
theorem NDL.kid {t:Tw.T} (h:yff l L0 J Jx t) {w:World} {hi:Nat} {v:Value} {pre L:List TN} (hn:NDL w hi t v L) (hp:pre++L <+: L0):(∃T n,v = .iface T (.pointer (some ⟨n,0,none⟩)))/\∀W,Kp w W->J pre W->Calls Tryz.prog 109 #[v,zdb l] W (zzo J Jx pre L W) :=
 ⟨hn.iface,fun _ hk hj=>h (hn.kp hk) hj hp⟩
theorem zg8 {pre L1 L2:List TN} (h:pre++(L1++L2) <+: L0):pre++L1 <+: L0:=by
 obtain ⟨r,hr⟩:=h
 exact ⟨L2++r,by rw [<-hr]; simp [List.append_assoc]⟩
theorem zez {pre L:List TN} {x:TN} (h:pre++(x::L) <+: L0):(pre ++ [x])++L <+: L0:=by
 rw [List.append_assoc]
 exact h
theorem zdf (hY:zpw l L0 J Jx):∀t:Tw.T,yff l L0 J Jx t
 | .name fr to x=>by
  intro hn hJ hp
  rename_i w hi tv pre L
  obtain ⟨⟨b,_,_,hv,hb⟩,rfl⟩:=hn
  have:=zc9 hY (x:=⟨.name fr to x,tv⟩) hv (vs:=[]) (Ls:=[]) (fun W _=>zxv W b) rfl (by simp) (by simp) hJ (by simpa using hp)
  rw [hv] at this ⊢
  simpa using this
 | .int fr to x=>by
  intro hn hJ hp
  rename_i w hi tv pre L
  obtain ⟨⟨b,_,_,hv,hb⟩,rfl⟩:=hn
  have:=zc9 hY (x:=⟨.int fr to x,tv⟩) hv (vs:=[]) (Ls:=[]) (fun W _=>zn6 W b) rfl (by simp) (by simp) hJ (by simpa using hp)
  rw [hv] at this ⊢
  simpa using this
 | .truth fr to x=>by
  intro hn hJ hp
  rename_i w hi tv pre L
  obtain ⟨⟨b,_,_,hv,hb⟩,rfl⟩:=hn
  have:=zc9 hY (x:=⟨.truth fr to x,tv⟩) hv (vs:=[]) (Ls:=[]) (fun W _=>zkd W b) rfl (by simp) (by simp) hJ (by simpa using hp)
  rw [hv] at this ⊢
  simpa using this
 | .side fr to x=>by
  intro hn hJ hp
  rename_i w hi tv pre L
  obtain ⟨⟨b,_,_,hv,hb⟩,rfl⟩:=hn
  have:=zc9 hY (x:=⟨.side fr to x,tv⟩) hv (vs:=[]) (Ls:=[]) (fun W _=>zl7 W b) rfl (by simp) (by simp) hJ (by simpa using hp)
  rw [hv] at this ⊢
  simpa using this
 | .bracket fr to i=>by
  intro hn hJ hp
  rename_i w hi tv pre L
  obtain ⟨v1,L1,⟨b,_,_,hv,hb⟩,n1,rfl⟩:=hn
  have K1:=n1.kid (zdf hY i) (zez hp)
  have:=zc9 hY (x:=⟨.bracket fr to i,tv⟩) hv (vs:=[v1]) (Ls:=[L1]) (fun W hk=>zii K1.1 (hk _ _ _ _ hb (by decide))) rfl (by simp) (by
   intro j a1 a2
   match j,a1 with
   | 0,_=>simpa [zd7] using K1) hJ (by simpa using hp)
  rw [hv] at this ⊢
  simpa using this
 | .fn fr to bn bat i=>by
  intro hn hJ hp
  rename_i w hi tv pre L
  obtain ⟨v1,L1,⟨b,_,_,hv,hb⟩,n1,rfl⟩:=hn
  have K1:=n1.kid (zdf hY i) (zez hp)
  have:=zc9 hY (x:=⟨.fn fr to bn bat i,tv⟩) hv (vs:=[v1]) (Ls:=[L1]) (fun W hk=>ybd K1.1 (hk _ _ _ _ hb (by decide))) rfl (by simp) (by
   intro j a1 a2
   match j,a1 with
   | 0,_=>simpa [zd7] using K1) hJ (by simpa using hp)
  rw [hv] at this ⊢
  simpa using this
 | .pair fr to a c=>by
  intro hn hJ hp
  rename_i w hi tv pre L
  obtain ⟨v1,v2,L1,L2,⟨b,_,_,hv,hb⟩,n1,n2,rfl⟩:=hn
  have K1:=n1.kid (zdf hY a) (zg8 (zez hp))
  have K2:=n2.kid (zdf hY c) (by have:=zez hp; rw [<-List.append_assoc] at this; exact this)
  have:=zc9 hY (x:=⟨.pair fr to a c,tv⟩) hv (vs:=[v1,v2]) (Ls:=[L1,L2]) (fun W hk=>zl8 K1.1 K2.1 (hk _ _ _ _ hb (by decide))) rfl (by simp) (by
   intro j a1 a2
   match j,a1 with
   | 0,_=>simpa [zd7] using K1
   | 1,_=>simpa [zd7] using K2) hJ (by simpa using hp)
  rw [hv] at this ⊢
  simpa using this
 | .call fr to a c=>by
  intro hn hJ hp
  rename_i w hi tv pre L
  obtain ⟨v1,v2,L1,L2,⟨b,_,_,hv,hb⟩,n1,n2,rfl⟩:=hn
  have K1:=n1.kid (zdf hY a) (zg8 (zez hp))
  have K2:=n2.kid (zdf hY c) (by have:=zez hp; rw [<-List.append_assoc] at this; exact this)
  have:=zc9 hY (x:=⟨.call fr to a c,tv⟩) hv (vs:=[v1,v2]) (Ls:=[L1,L2]) (fun W hk=>zl9 K1.1 K2.1 (hk _ _ _ _ hb (by decide))) rfl (by simp) (by
   intro j a1 a2
   match j,a1 with
   | 0,_=>simpa [zd7] using K1
   | 1,_=>simpa [zd7] using K2) hJ (by simpa using hp)
  rw [hv] at this ⊢
  simpa using this
 | .binary fr to sg a c=>by
  intro hn hJ hp
  rename_i w hi tv pre L
  obtain ⟨v1,v2,L1,L2,⟨b,_,_,hv,hb⟩,n1,n2,rfl⟩:=hn
  have K1:=n1.kid (zdf hY a) (zg8 (zez hp))
  have K2:=n2.kid (zdf hY c) (by have:=zez hp; rw [<-List.append_assoc] at this; exact this)
  have:=zc9 hY (x:=⟨.binary fr to sg a c,tv⟩) hv (vs:=[v1,v2]) (Ls:=[L1,L2]) (fun W hk=>zjd K1.1 K2.1 (hk _ _ _ _ hb (by decide))) rfl (by simp) (by
   intro j a1 a2
   match j,a1 with
   | 0,_=>simpa [zd7] using K1
   | 1,_=>simpa [zd7] using K2) hJ (by simpa using hp)
  rw [hv] at this ⊢
  simpa using this
 | .lett fr to rc bn bat a c=>by
  intro hn hJ hp
  rename_i w hi tv pre L
  obtain ⟨v1,v2,L1,L2,⟨b,_,_,hv,hb⟩,n1,n2,rfl⟩:=hn
  have K1:=n1.kid (zdf hY a) (zg8 (zez hp))
  have K2:=n2.kid (zdf hY c) (by have:=zez hp; rw [<-List.append_assoc] at this; exact this)
  have:=zc9 hY (x:=⟨.lett fr to rc bn bat a c,tv⟩) hv (vs:=[v1,v2]) (Ls:=[L1,L2]) (fun W hk=>ybe K1.1 K2.1 (hk _ _ _ _ hb (by decide))) rfl (by simp) (by
   intro j a1 a2
   match j,a1 with
   | 0,_=>simpa [zd7] using K1
   | 1,_=>simpa [zd7] using K2) hJ (by simpa using hp)
  rw [hv] at this ⊢
  simpa using this
 | .cond fr to c t f=>by
  intro hn hJ hp
  rename_i w hi tv pre L
  obtain ⟨v1,v2,v3,L1,L2,L3,⟨b,_,_,hv,hb⟩,n1,n2,n3,rfl⟩:=hn
  have K1:=n1.kid (zdf hY c) (zg8 (zez hp))
  have hp2:((pre ++ [⟨.cond fr to c t f,tv⟩])++L1)++(L2++L3) <+: L0:=by have:=zez hp; rw [<-List.append_assoc] at this; exact this
  have K2:=n2.kid (zdf hY t) (zg8 hp2)
  have K3:=n3.kid (zdf hY f) (by rw [<-List.append_assoc] at hp2; exact hp2)
  have:=zc9 hY (x:=⟨.cond fr to c t f,tv⟩) hv (vs:=[v1,v2,v3]) (Ls:=[L1,L2,L3]) (fun W hk=>zqa K1.1 K2.1 K3.1 (hk _ _ _ _ hb (by decide))) rfl (by simp) (by
   intro j a1 a2
   match j,a1 with
   | 0,_=>simpa [zd7] using K1
   | 1,_=>simpa [zd7] using K2
   | 2,_=>simpa [zd7,List.append_assoc] using K3) hJ (by simpa using hp)
  rw [hv] at this ⊢
  simpa using this
theorem zxx (hY:zpw l L0 J Jx) {w:World} {hi Bt:Nat} {t:Tw.T} {tv:Value} (hB:w.heap[Bt]? = some (.cells #[tv] 68 (0,0))) (hn:NDL w hi t tv L0) (hJ:J [] w) :
  Calls Tryz.prog 108 #[zdb l,.pointer (some ⟨Bt,0,none⟩)] w fun e w'=>e = .returned (.tuple #[])/\(J L0 w'\/∃q,q <+: L0/\Jx q w'):=by
 have HN:=bV hn
 have HJ:=bV hJ
 obtain ⟨T0,n0,rfl⟩:=hn.iface
 have c0:w.cell? ⟨Bt,0,none⟩=some (.iface T0 (.pointer (some ⟨n0,0,none⟩))):=zcR hB
 clear hB hn hJ
 go_enter Tryz.func108,Tryz.ntmps108
 go_wp2_with fail
 refine (zdf hY t (uh HN) (pre:=[]) (uh HJ) (by simp)).mono ?_
 rintro e1 w1 h1
 have X:Hid (J L0 w1\/∃q,q <+: L0/\Jx q w1):=by
  rcases h1 with ⟨_,h,_⟩ | ⟨_,q,hq,h⟩
  ·exact .inl (by simpa using h)
  ·exact .inr ⟨q,hq,by simpa using h⟩
 obtain ⟨bv,rfl⟩:∃bv,e1 = .returned (.bool bv):=by
  rcases h1 with ⟨rfl,_⟩ | ⟨rfl,_⟩
  ·exact ⟨_,rfl⟩
  ·exact ⟨_,rfl⟩
 clear h1
 go_wp2_with fail
 go_end0
 exact ⟨rfl,X.out⟩
abbrev TNIn (L0:List TN) := {x:TN // x∈L0}
abbrev encT (L0:List TN) (x:TNIn L0):Array Value:=#[x.1.v]
theorem zkn {w:World} {hi Bt n:Nat} {t:Tw.T} {tv:Value} {L0:List TN} (hB:w.heap[Bt]? = some (.cells #[tv] 68 (0,0))) (hn:NDL w hi t tv L0) :
  SeqStopsK Fence.wide n Tryz.prog 108 #[.pointer (some ⟨Bt,0,none⟩)] (encT L0) Kp (fun ys=>ys.map (·.1)=L0) (fun pre=>pre.map (·.1) <+: L0) L0.length w:=by
 intro l J Jx W hW hJ hJx hY h0
 have KW:Kp w W:=fun k c t m x _=>(hW.block k (zgE.1 x).1).trans x
 have Y:zpw l L0 (fun pre W=>∃p:List (TNIn L0),p.map (·.1)=pre/\J p W) (fun pre W=>∃p:List (TNIn L0),p.map (·.1)=pre/\Jx p W):=by
  refine ⟨fun {s W W'} ⟨p,hp,hj⟩ hg=>⟨p,hp,hJ p W W' none hj hg (fun r e=>by cases e)⟩,?_⟩
  rintro pre x W1 ⟨p,rfl,hj⟩ hpre
  have hx:x∈L0:=hpre.subset (by simp)
  have hlen:p.length<L0.length:=by
   have:=hpre.length_le
   simp at this
   omega
  refine zo8 (YieldAt.mono (hY p ⟨x,hx⟩ W1 hj hlen) ?_)
  rintro e W' (⟨he,hj',hk⟩ | ⟨he,hj'⟩)
  ·exact .inl ⟨he,⟨p ++ [⟨x,hx⟩],by simp,hj'⟩,hk⟩
  ·exact .inr ⟨he,⟨p ++ [⟨x,hx⟩],by simp,hj'⟩⟩
 refine callsIn_wide.2 ((zxx Y (KW _ _ _ _ hB (by decide)) (hn.kp KW) ⟨[],rfl,h0⟩).mono ?_)
 rintro e W' ⟨rfl,⟨p,hp,hj⟩ | ⟨q,hq,p,rfl,hj⟩⟩
 ·exact ⟨⟨_,rfl⟩,.inl ⟨p,hp,hj⟩⟩
 ·exact ⟨⟨_,rfl⟩,.inr ⟨p,hq,hj⟩⟩
theorem zok (w:World) {tv:Value} (ht:∃T n,tv = .iface T (.pointer (some ⟨n,0,none⟩))) :
  Calls Tryz.prog 57 #[tv] w fun e w'=>e = .returned (.func (.func 108) #[] #[.pointer (some ⟨w.heap.size,0,none⟩)])/\w'=w.alloc (.cells #[tv] 68):=by
 obtain ⟨T0,n0,rfl⟩:=ht
 go_enter Tryz.func57,Tryz.ntmps57
 go_wp2_with fail
 go_ret
 exact ⟨rfl,rfl⟩
end Go.Proofs.YtckhafpejefbbaaGreatDoor
