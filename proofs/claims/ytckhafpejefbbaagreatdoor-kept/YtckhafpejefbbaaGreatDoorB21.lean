/- Texts of the proof, put together: AltCapt, AltCapt2, AltCapt3. -/
import Derived.Test.YtckhafpejefbbaaGreatDoorB19
import Derived.Test.YtckhafpejefbbaaGreatDoorB20
import Derived.Sort.QuietTacIn
import Derived.Test.YtckhafpejefbbaaGreatDoorB16

set_option maxRecDepth 100000
set_option maxHeartbeats 4000000
namespace Go.Proofs.YtckhafpejefbbaaGreatDoor
open Go.RowKit Go.Shelf
attribute [local go_sem] Oper.semAt_some
theorem ybk {w:World} {b:Nat} {c0 c1 c2 c3:Value} {v1:Value} (h0:∃T n,v1 = .iface T (.pointer (some ⟨n,0,none⟩))) (hb:w.heap[b]? = some (.cells #[c0,c1,c2,c3,v1] 235 (0,0))) :
  Calls Tryz.prog 117 #[.iface 215 (.pointer (some ⟨b,0,none⟩))] w (zbw w [v1]):=by
 obtain ⟨T0,n0,rfl⟩:=h0
 have c0:w.cell? ⟨b,4,none⟩=some (.iface T0 (.pointer (some ⟨n0,0,none⟩))):=zcR hb
 have q5:=zdw
 have q6:=zei
 clear hb
 go_enter Tryz.func117,Tryz.ntmps117
 go_wp2_with fail
 go_ret
 exact ⟨zwA _ _ none,.inr ⟨_,rfl,zad w _⟩⟩
theorem zsk {w:World} {b:Nat} {c0 c1 c3 c4:Value} {rc:Bool} {v1 v2:Value} (h0:∃T n,v1 = .iface T (.pointer (some ⟨n,0,none⟩))) (h1:∃T n,v2 = .iface T (.pointer (some ⟨n,0,none⟩))) (hb:w.heap[b]? = some (.cells #[c0,c1,.bool rc,c3,c4,v1,v2] 140 (0,0))) :
  Calls Tryz.prog 117 #[.iface 136 (.pointer (some ⟨b,0,none⟩))] w (zbw w (if rc then [v1,v2] else [v2])):=by
 obtain ⟨T0,n0,rfl⟩:=h0
 obtain ⟨T1,n1,rfl⟩:=h1
 have c2:w.cell? ⟨b,2,none⟩=some (.bool rc):=zcR hb
 have c5:w.cell? ⟨b,5,none⟩=some (.iface T0 (.pointer (some ⟨n0,0,none⟩))):=zcR hb
 have c6:w.cell? ⟨b,6,none⟩=some (.iface T1 (.pointer (some ⟨n1,0,none⟩))):=zcR hb
 have q5:=zdx
 have q6:=zcv
 clear hb
 cases rc with
 | false =>
  go_enter Tryz.func117,Tryz.ntmps117
  go_wp2_with fail
  go_ret
  exact ⟨zwA _ _ none,.inr ⟨_,rfl,zad w _⟩⟩
 | true =>
  go_enter Tryz.func117,Tryz.ntmps117
  go_wp2_with fail
  go_region
  go_wp2_with fail
  go_ret
  exact ⟨zac (zwA _ _ none),.inr ⟨_,rfl,zad w _⟩⟩
def capB (old name:List UInt8) (z:NB):Bool:=decide (z.tx=name)||(decide (z.tx=old)&&(z.e.look name).isSome)
theorem zne {w:World} {hi:Nat} {PT:TypeId} {b o:Nat} {c:Array Value} {ct:TypeId} {old name:List UInt8} (hne:name≠old)
  (hB:∀W,Calls Tryz.prog 58 #[.iface PT (.pointer (some ⟨b,0,none⟩))] W fun e w'=>e = .returned (.pointer (some ⟨b,o,none⟩))/\W=w')
  (hb:w.heap[b]? = some (.cells c ct (0,0))) (h0:c[o]? = some (ug old)) {v1:Value} {t1:Tw.T} {L1:List NB}
  (hR:∀W,w.grownBy W none->Calls Tryz.prog 117 #[.iface PT (.pointer (some ⟨b,0,none⟩))] W (zbw W [v1])) (hn:NL w hi t1 v1 .nil L1) :
  Calls Tryz.prog 66 #[.iface PT (.pointer (some ⟨b,0,none⟩)),ug name] w fun e w'=>e = .returned (.bool ((za5 L1).any (capB old name)))/\w.grownBy w' none:=by
 refine (callsIn_wide (n:=3)).1 ?_
 refine callsIn_of_wp_marks Tryz.func66 rfl trivial ?_
 simp only [Tryz.ntmps66,List.size_toArray,List.length_cons,List.length_nil,Nat.reduceAdd,Nat.reduceSub,Array.replicate_succ,Array.replicate_zero,List.push_toArray,List.append_toArray,List.nil_append,List.cons_append]
 obtain ⟨W0,hW0⟩:∃W0,(w.alloc (.cells #[ug name] 9)).alloc (.cells #[.bool false] 4)=W0:=⟨_,rfl⟩
 have G0:w.grownBy W0 none:=by rw [<-hW0]; exact zae (zae (zab _) _) _
 have z0:W0.heap.size=w.heap.size+2:=by rw [<-hW0]; simp
 have n0:W0.heap[w.heap.size]? = some (.cells #[ug name] 9 (0,0)):=by rw [<-hW0]; exact (Below.heap_alloc _ _ _ (by simp)).trans (zad w _)
 have r0:W0.heap[w.heap.size+1]? = some (.cells #[.bool false] 4 (0,0)):=by
  rw [<-hW0]
  have:=zad (w.alloc (.cells #[ug name] 9)) (.cells #[.bool false] 4)
  rw [World.size_alloc] at this
  exact this
 have hb0:=zbG G0 hb
 have cb:W0.cell? ⟨b,o,none⟩=some (ug old):=by rw [cell_of_row _ _ _ _ _ _ hb0]; exact h0
 have cn:W0.cell? ⟨w.heap.size,0,none⟩=some (ug name):=(zag n0).1
 gi_wp2_with fail
 refine ⟨trivial,?_⟩
 refine (callsIn_wide.2 (hB W0)).mono ?_
 rintro e1 w1 ⟨rfl,rfl⟩
 have hbe:(name==old)=false:=by simpa using hne
 obtain ⟨W1,hW1⟩:∃W1,W0.alloc (.cells #[ug old] 9)=W1:=⟨_,rfl⟩
 have G1:W0.grownBy W1 none:=by rw [<-hW1]; exact zwA _ _ none
 have z1:W1.heap.size=w.heap.size+3:=by rw [<-hW1]; simp; omega
 have o1:W1.heap[w.heap.size+2]? = some (.cells #[ug old] 9 (0,0)):=by
  have:=zad W0 (.cells #[ug old] 9)
  rw [z0] at this
  rw [<-hW1]
  exact this
 have n1:=zbG G1 n0
 have r1:=zbG G1 r0
 have cn1:W1.cell? ⟨w.heap.size,0,none⟩=some (ug name):=(zag n1).1
 have co1:W1.cell? ⟨w.heap.size+2,0,none⟩=some (ug old):=(zag o1).1
 have g1:=zaa G0 G1
 gi_wp2_with fail
 refine ⟨trivial,?_⟩
 refine (callsIn_wide.2 (hR _ g1)).mono ?_
 rintro e1 W2 ⟨hg2,hcase⟩
 rcases hcase with ⟨h,_⟩ | ⟨k,rfl,hk⟩
 ·cases h
 have g2:=zaa g1 hg2
 have hn2:=hn.kp (Kp.of_grown g2)
 obtain ⟨T1,m1,rfl⟩:=hn.iface
 have ck:W2.cell? ⟨k,0,none⟩=some (.iface T1 (.pointer (some ⟨m1,0,none⟩))):=zcR hk
 have c65:Tryz.prog.cellsOf 68=1:=by kernel_rfl
 have n2:=zbG hg2 n1
 have r2:=zbG hg2 r1
 have o2:=zbG hg2 o1
 have z2:=hg2.size
 clear hB hR hn hW0 hW1 G0 G1 n0 r0 hb0 cb cn n1 r1 o1 cn1 co1 hg2 hb h0
 gi_wp2_with fail
 refine wpIn_loop_rounds 2 ?_
 rw [roundsIn_succ]
 gi_wp2_with fail
 refine ⟨trivial,?_⟩
 refine (callsIn_wide.2 (zkq W2 ⟨T1,m1,rfl⟩)).mono ?_
 rintro e1 w3 ⟨rfl,rfl⟩
 gi_wp2_with fail
 obtain ⟨W3,hW3⟩:∃W3,W2.alloc (.cells #[.iface T1 (.pointer (some ⟨m1,0,none⟩))] 68)=W3:=⟨_,rfl⟩
 have G3:W2.grownBy W3 none:=by rw [<-hW3]; exact zwA _ _ none
 have z3:W3.heap.size=W2.heap.size+1:=by rw [<-hW3]; simp
 have hne3:W3.heap[W2.heap.size]? = some (.cells #[.iface T1 (.pointer (some ⟨m1,0,none⟩))] 68 (0,0)):=by rw [<-hW3]; exact zad W2 _
 have hn3:=hn2.kp (Kp.of_grown G3)
 have n3:=zbG G3 n2
 have r3:=zbG G3 r2
 have o3:=zbG G3 o2
 have g3:=zaa g2 G3
 rw [hW3]
 clear hW3 hn2 n2 r2 o2 G3 g1 g2 ck hk
 refine zla (p:=27) (q:=28) (d1:=8) (d2:=9) rfl (enters_of Tryz.func185 (by kernel_rfl) rfl) (znc hne3 hn3) (fun x=>FOk.own x _) (fun h k=>h.trans k) zlj (Below.refl _ _)
  (fun pre X=>(∀z∈pre,capB old name z.1.1=false)/\W3.grownBy X none)
  (fun c pre X=>c = .ret/\∃init x,pre=init ++ [x]/\(∀z∈init,capB old name z.1.1=false)/\capB old name x.1.1=true/\Set1 W3 (w.heap.size+1) (.bool true) 4 X) ?own ?ownx ⟨by simp,zab _⟩ ?assign ?body ?done ?stop
 case own =>
  rintro s X Y row ⟨h1,h2⟩ hg hr
  exact ⟨h1,zc1 (β := Unit) W3 (znL _) () X Y row h2 hg hr⟩
 case ownx =>
  rintro c s X Y row ⟨h0,init,x,h1,h2,h3,h4⟩ hg hr
  exact ⟨h0,init,x,h1,h2,h3,Set1.own (β := Unit) (znL _) (by omega) () X Y row h4 hg hr⟩
 case assign =>
  intro l x X K hK
  simp only [zsA,zsZ,zsS] at hK ⊢
  gi_wp2
  exact hK
 case body =>
  rintro lr pre ⟨⟨x,ev⟩,hxf,hev⟩ X hlr hrec ⟨hpre,hgX⟩ hlt hok
  obtain ⟨a,ha⟩:=id hev
  obtain rfl:ev = .pointer a:=ha
  obtain ⟨hbat,hnb⟩:=hok
  dsimp only at hbat hnb
  obtain ⟨_,_,cx,_,_,_⟩:=zaf hnb
  have HP:=bV hpre
  have HG:=bV hgX
  have nX:=zbG hgX n3
  have rX:=zbG hgX r3
  have oX:=zbG hgX o3
  have cN:X.cell? ⟨w.heap.size,0,none⟩=some (ug name):=(zag nX).1
  have cO:X.cell? ⟨w.heap.size+2,0,none⟩=some (ug old):=(zag oX).1
  have HR:=bV rX
  have HS:=bV (fun n=>zlb (w:=X.drewN n) (hbat.grown (za4 X n)) name)
  simp only [zsA,zsZ,zsS]
  have hmx:Tryz.prog.follows .mixedOrders=true:=by kernel_rfl
  have good:capB old name x=false->Hid (∀X',X.grownBy X' none->KeepsFrom W3.heap.size X X'/\Kp X X'/\(∀z∈pre ++ [(⟨(x,.pointer a),hxf,hev⟩:FIn L1)],capB old name z.1.1=false)/\W3.grownBy X' none):=fun hc X' hg' =>
   ⟨zax hg',Kp.of_grown hg',fun z hz=>(by
    rcases zmA.1 hz with hz | hz
    ·exact uh HP z hz
    ·simp only [List.mem_singleton] at hz
     subst hz
     exact hc),zaa (uh HG) hg'⟩
  clear hgX hpre nX oX rX hnb hbat
  have hfn:Fence.wide.fn 118:=trivial
  obtain ⟨cr,fr⟩:=zag (uh HR)
  have stop:Hid (∀nq,capB old name x=true->ownPostG W3.heap.size Kp (fun pre X=>(∀z∈pre,capB old name z.1.1=false)/\W3.grownBy X none) (fun c pre X=>c = .ret/\∃init x,pre=init ++ [x]/\(∀z∈init,capB old name z.1.1=false)/\capB old name x.1.1=true/\Set1 W3 (w.heap.size+1) (.bool true) 4 X) (pre ++ [(⟨(x,.pointer a),hxf,hev⟩:FIn L1)]) X .ret {tmps:=#[],defers:=[]} ((X.drewN nq).setCell ⟨w.heap.size+1,0,none⟩ (.bool true))):=fun nq hc =>
   ⟨za7 (zax (za4 X nq)) (za8 _ _ _),rfl,pre,_,rfl,uh HP,hc,Set1.zer (zaa (uh HG) (za4 X nq)) (uh HR) _⟩
  by_cases h1:x.tx=name
  ·have hc:capB old name x=true:=by simp [capB,h1]
   have HC:=bV hc
   rw [h1] at cx
   clear h1 hc good
   gi_wp2_with fail
   refine zcj lr (by kernel_rfl) (by kernel_rfl) (by kernel_rfl) ?_
   repeat (gi_big_quiet_step (fail))
   refine wpQuietIn_nil ?_
   intro _ hw'
   obtain ⟨nq,hw''⟩:=hw'
   subst hw''
   gi_wp2_with fail
   exact uh stop nq (uh HC)
  ·have e1:(x.tx==name)=false:=by simpa using h1
   by_cases h2:x.tx=old
   ·obtain ⟨bl,hbl⟩:∃bl,(x.e.look name).isSome=bl:=⟨_,rfl⟩
    have hc:capB old name x=bl:=by simp [capB,h2,hne.symm,hbl]
    have HC:=bV hc
    rw [hbl] at HS
    rw [h2] at cx e1
    clear h1 h2 hc hbl
    gi_wp2_with fail
    refine zcj lr (by kernel_rfl) (by kernel_rfl) (by kernel_rfl) ?_
    repeat (gi_big_quiet_step (exact ⟨rfl,callsIn_wide.2 ((uh HS _).mono (by rintro e w' ⟨rfl,rfl⟩; exact ⟨rfl,_,rfl⟩))⟩))
    refine wpQuietIn_nil ?_
    intro _ hw'
    obtain ⟨nq,hw''⟩:=hw'
    subst hw''
    cases bl with
    | true =>
     clear good
     gi_wp2_with fail
     exact uh stop nq (uh HC)
    | false =>
     have GD:=good (uh HC)
     clear good
     gi_wp2_with fail
     exact GD.out _ (za4 X nq)
   ·have e2:(x.tx==old)=false:=by simpa using h2
    have hc:capB old name x=false:=by simp [capB,h1,h2]
    have GD:=good hc
    clear h1 h2 hc good
    gi_wp2_with fail
    refine zcj lr (by kernel_rfl) (by kernel_rfl) (by kernel_rfl) ?_
    repeat (gi_big_quiet_step (fail))
    refine wpQuietIn_nil ?_
    intro _ hw'
    obtain ⟨nq,hw''⟩:=hw'
    subst hw''
    gi_wp2_with fail
    exact GD.out _ (za4 X nq)
 case done =>
  rintro D xs X hD hxs ⟨hpre,hg⟩ hK
  have rX:=zbG hg r3
  obtain ⟨cr,fr⟩:=zag rX
  gi_wp2_with fail
  rw [roundsIn_succ]
  gi_wp2_with fail
  have st:=Set1.zer hg rX (.bool false)
  have hK2:(X.setCell ⟨w.heap.size+1,0,none⟩ (.bool false)).heap[D]? = some (.deferred (some [])):=(za8 (B:=0) X _ _).same D _ (Nat.zero_le _) hK rfl
  refine ⟨by simp,.inl ⟨_,_,rfl,run_takeDeferred hK2,?_⟩⟩
  have st':=Set1.own (β := Unit) (znL _) (by omega) () _ _ (some D) st (grownBy_putObj' _ D (.deferred none)) (fun r e=>by cases e; exact ⟨by omega,_,hK2,rfl⟩)
  obtain ⟨e0,_⟩:=zag st'.res
  refine ⟨.bool false,by simp [results,Tryz.results66,go_sem,e0],?_,?_⟩
  ·have:(za5 L1).any (capB old name)=false:=by
    rw [List.any_eq_false]
    intro z hz
    rw [<-hxs] at hz
    obtain ⟨y,hy,rfl⟩:=List.mem_map.1 hz
    rw [hpre y hy]
    simp
   rw [this]
  ·refine ⟨st'.os.trans g3.os,st'.tape.trans g3.tape,st'.output.trans g3.output,by have:=st'.size; omega,fun k hk _=>(st'.old k (by omega) (by omega)).trans (g3.block k hk (by simp))⟩
 case stop =>
  rintro D c pre X hD hpre ⟨rfl,init,x,h1,h2,h3,h4⟩ hK
  gi_wp2_with fail
  refine ⟨by simp,.inl ⟨_,_,rfl,run_takeDeferred hK,?_⟩⟩
  have st':=Set1.own (β := Unit) (znL _) (by omega) () _ _ (some D) h4 (grownBy_putObj' _ D (.deferred none)) (fun r e=>by cases e; exact ⟨by omega,_,hK,rfl⟩)
  obtain ⟨e0,_⟩:=zag st'.res
  refine ⟨.bool true,by simp [results,Tryz.results66,go_sem,e0],?_,?_⟩
  ·have:(za5 L1).any (capB old name)=true:=by
    rw [List.any_eq_true]
    refine ⟨x.1.1,?_,h3⟩
    exact hpre.subset (by rw [h1]; simp)
   rw [this]
  ·refine ⟨st'.os.trans g3.os,st'.tape.trans g3.tape,st'.output.trans g3.output,by have:=st'.size; omega,fun k hk _=>(st'.old k (by omega) (by omega)).trans (g3.block k hk (by simp))⟩
open Go.RowKit Go.Shelf
attribute [local go_sem] Oper.semAt_some
theorem zvc {W1 X:World} {rb:Nat} {v:Value} {ty:TypeId} (h:Set1 W1 rb v ty X) {B:Nat} (hB:rb<B) (D:Nat) (hD:B=D) {o:Obj} (hK:X.heap[D]? = some o):(X.putObj D (.deferred none)).heap[rb]? = some (.cells #[v] ty (0,0))/\∀w:World,w.grownBy W1 none->w.heap.size<=rb->w.heap.size<=D->w.grownBy (X.putObj D (.deferred none)) none:=by
 subst hD
 refine ⟨(World.putObj_heap_other (by omega)).trans h.res,fun w g h1 h2 => ?_⟩
 have hz:=h.size
 have hg:=g.size
 exact ⟨h.os.trans g.os,h.tape.trans g.tape,h.output.trans g.output,by simp [World.putObj]; omega,fun k hk _=>(World.putObj_heap_other (by omega)).trans ((h.old k (by omega) (by omega)).trans (g.block k hk (by simp)))⟩
theorem ztm {w:World} {hi:Nat} {PT:TypeId} {b o:Nat} {c:Array Value} {ct:TypeId} {old name:List UInt8} (hne:name≠old)
  (hB:∀W,Calls Tryz.prog 58 #[.iface PT (.pointer (some ⟨b,0,none⟩))] W fun e w'=>e = .returned (.pointer (some ⟨b,o,none⟩))/\W=w')
  (hb:w.heap[b]? = some (.cells c ct (0,0))) (h0:c[o]? = some (ug old)) {v1 v2:Value} {t1 t2:Tw.T} {L1 L2:List NB}
  (hR:∀W,w.grownBy W none->Calls Tryz.prog 117 #[.iface PT (.pointer (some ⟨b,0,none⟩))] W (zbw W [v1,v2])) (hn:NL w hi t1 v1 .nil L1) (hm:NL w hi t2 v2 .nil L2) :
  Calls Tryz.prog 66 #[.iface PT (.pointer (some ⟨b,0,none⟩)),ug name] w fun e w'=>e = .returned (.bool ((za5 L1).any (capB old name)||(za5 L2).any (capB old name)))/\w.grownBy w' none:=by
 refine (callsIn_wide (n:=3)).1 ?_
 refine callsIn_of_wp_marks Tryz.func66 rfl trivial ?_
 simp only [Tryz.ntmps66,List.size_toArray,List.length_cons,List.length_nil,Nat.reduceAdd,Nat.reduceSub,Array.replicate_succ,Array.replicate_zero,List.push_toArray,List.append_toArray,List.nil_append,List.cons_append]
 obtain ⟨W0,hW0⟩:∃W0,(w.alloc (.cells #[ug name] 9)).alloc (.cells #[.bool false] 4)=W0:=⟨_,rfl⟩
 have G0:w.grownBy W0 none:=by rw [<-hW0]; exact zae (zae (zab _) _) _
 have z0:W0.heap.size=w.heap.size+2:=by rw [<-hW0]; simp
 have n0:W0.heap[w.heap.size]? = some (.cells #[ug name] 9 (0,0)):=by rw [<-hW0]; exact (Below.heap_alloc _ _ _ (by simp)).trans (zad w _)
 have r0:W0.heap[w.heap.size+1]? = some (.cells #[.bool false] 4 (0,0)):=by
  rw [<-hW0]
  have:=zad (w.alloc (.cells #[ug name] 9)) (.cells #[.bool false] 4)
  rw [World.size_alloc] at this
  exact this
 have hb0:=zbG G0 hb
 have cb:W0.cell? ⟨b,o,none⟩=some (ug old):=by rw [cell_of_row _ _ _ _ _ _ hb0]; exact h0
 have cn:W0.cell? ⟨w.heap.size,0,none⟩=some (ug name):=(zag n0).1
 gi_wp2_with fail
 refine ⟨trivial,?_⟩
 refine (callsIn_wide.2 (hB W0)).mono ?_
 rintro e1 w1 ⟨rfl,rfl⟩
 have hbe:(name==old)=false:=by simpa using hne
 obtain ⟨W1,hW1⟩:∃W1,W0.alloc (.cells #[ug old] 9)=W1:=⟨_,rfl⟩
 have G1:W0.grownBy W1 none:=by rw [<-hW1]; exact zwA _ _ none
 have z1:W1.heap.size=w.heap.size+3:=by rw [<-hW1]; simp; omega
 have o1:W1.heap[w.heap.size+2]? = some (.cells #[ug old] 9 (0,0)):=by
  have:=zad W0 (.cells #[ug old] 9)
  rw [z0] at this
  rw [<-hW1]
  exact this
 have n1:=zbG G1 n0
 have r1:=zbG G1 r0
 have cn1:W1.cell? ⟨w.heap.size,0,none⟩=some (ug name):=(zag n1).1
 have co1:W1.cell? ⟨w.heap.size+2,0,none⟩=some (ug old):=(zag o1).1
 have g1:=zaa G0 G1
 gi_wp2_with fail
 refine ⟨trivial,?_⟩
 refine (callsIn_wide.2 (hR _ g1)).mono ?_
 rintro e1 W2 ⟨hg2,hcase⟩
 rcases hcase with ⟨h,_⟩ | ⟨k,rfl,hk⟩
 ·cases h
 have g2:=zaa g1 hg2
 have hn2:=hn.kp (Kp.of_grown g2)
 obtain ⟨T1,m1,rfl⟩:=hn.iface
 have hm2:=hm.kp (Kp.of_grown g2)
 obtain ⟨T2,m2,rfl⟩:=hm.iface
 have ck:W2.cell? ⟨k,0,none⟩=some (.iface T1 (.pointer (some ⟨m1,0,none⟩))):=zcR hk
 have ck2:W2.cell? ⟨k,1,none⟩=some (.iface T2 (.pointer (some ⟨m2,0,none⟩))):=zcR hk
 have c65:Tryz.prog.cellsOf 68=1:=by kernel_rfl
 have n2:=zbG hg2 n1
 have r2:=zbG hg2 r1
 have o2:=zbG hg2 o1
 have z2:=hg2.size
 clear hB hR hn hm hW0 hW1 G0 G1 n0 r0 hb0 cb cn n1 r1 o1 cn1 co1 hg2 hb h0
 gi_wp2_with fail
 refine wpIn_loop_rounds 3 ?_
 rw [roundsIn_succ]
 gi_wp2_with fail
 refine ⟨trivial,?_⟩
 refine (callsIn_wide.2 (zkq W2 ⟨T1,m1,rfl⟩)).mono ?_
 rintro e1 w3 ⟨rfl,rfl⟩
 gi_wp2_with fail
 obtain ⟨W3,hW3⟩:∃W3,W2.alloc (.cells #[.iface T1 (.pointer (some ⟨m1,0,none⟩))] 68)=W3:=⟨_,rfl⟩
 have G3:W2.grownBy W3 none:=by rw [<-hW3]; exact zwA _ _ none
 have z3:W3.heap.size=W2.heap.size+1:=by rw [<-hW3]; simp
 have hne3:W3.heap[W2.heap.size]? = some (.cells #[.iface T1 (.pointer (some ⟨m1,0,none⟩))] 68 (0,0)):=by rw [<-hW3]; exact zad W2 _
 have hn3:=hn2.kp (Kp.of_grown G3)
 have n3:=zbG G3 n2
 have r3:=zbG G3 r2
 have o3:=zbG G3 o2
 have g3:=zaa g2 G3
 have hm3:=hm2.kp (Kp.of_grown G3)
 have hk3:=zbG G3 hk
 rw [hW3]
 clear hW3 hn2 hm2 n2 r2 o2 G3 g1 g2 ck ck2 hk
 refine zla (p:=27) (q:=28) (d1:=8) (d2:=9) rfl (enters_of Tryz.func185 (by kernel_rfl) rfl) (znc hne3 hn3) (fun x=>FOk.own x _) (fun h k=>h.trans k) zlj (Below.refl _ _)
  (fun pre X=>(∀z∈pre,capB old name z.1.1=false)/\W3.grownBy X none)
  (fun c pre X=>c = .ret/\∃init x,pre=init ++ [x]/\(∀z∈init,capB old name z.1.1=false)/\capB old name x.1.1=true/\Set1 W3 (w.heap.size+1) (.bool true) 4 X) ?own ?ownx ⟨by simp,zab _⟩ ?assign ?body ?done ?stop
 case own =>
  rintro s X Y row ⟨h1,h2⟩ hg hr
  exact ⟨h1,zc1 (β := Unit) W3 (znL _) () X Y row h2 hg hr⟩
 case ownx =>
  rintro c s X Y row ⟨h0,init,x,h1,h2,h3,h4⟩ hg hr
  exact ⟨h0,init,x,h1,h2,h3,Set1.own (β := Unit) (znL _) (by omega) () X Y row h4 hg hr⟩
 case assign =>
  intro l x X K hK
  simp only [zsA,zsZ,zsS] at hK ⊢
  gi_wp2
  exact hK
 case body =>
  rintro lr pre ⟨⟨x,ev⟩,hxf,hev⟩ X hlr hrec ⟨hpre,hgX⟩ hlt hok
  obtain ⟨a,ha⟩:=id hev
  obtain rfl:ev = .pointer a:=ha
  obtain ⟨hbat,hnb⟩:=hok
  dsimp only at hbat hnb
  obtain ⟨_,_,cx,_,_,_⟩:=zaf hnb
  have HP:=bV hpre
  have HG:=bV hgX
  have nX:=zbG hgX n3
  have rX:=zbG hgX r3
  have oX:=zbG hgX o3
  have cN:X.cell? ⟨w.heap.size,0,none⟩=some (ug name):=(zag nX).1
  have cO:X.cell? ⟨w.heap.size+2,0,none⟩=some (ug old):=(zag oX).1
  have HR:=bV rX
  have HS:=bV (fun n=>zlb (w:=X.drewN n) (hbat.grown (za4 X n)) name)
  simp only [zsA,zsZ,zsS]
  have hmx:Tryz.prog.follows .mixedOrders=true:=by kernel_rfl
  have good:capB old name x=false->Hid (∀X',X.grownBy X' none->KeepsFrom W3.heap.size X X'/\Kp X X'/\(∀z∈pre ++ [(⟨(x,.pointer a),hxf,hev⟩:FIn L1)],capB old name z.1.1=false)/\W3.grownBy X' none):=fun hc X' hg' =>
   ⟨zax hg',Kp.of_grown hg',fun z hz=>(by
    rcases zmA.1 hz with hz | hz
    ·exact uh HP z hz
    ·simp only [List.mem_singleton] at hz
     subst hz
     exact hc),zaa (uh HG) hg'⟩
  clear hgX hpre nX oX rX hnb hbat
  have hfn:Fence.wide.fn 118:=trivial
  obtain ⟨cr,fr⟩:=zag (uh HR)
  have stop:Hid (∀nq,capB old name x=true->ownPostG W3.heap.size Kp (fun pre X=>(∀z∈pre,capB old name z.1.1=false)/\W3.grownBy X none) (fun c pre X=>c = .ret/\∃init x,pre=init ++ [x]/\(∀z∈init,capB old name z.1.1=false)/\capB old name x.1.1=true/\Set1 W3 (w.heap.size+1) (.bool true) 4 X) (pre ++ [(⟨(x,.pointer a),hxf,hev⟩:FIn L1)]) X .ret {tmps:=#[],defers:=[]} ((X.drewN nq).setCell ⟨w.heap.size+1,0,none⟩ (.bool true))):=fun nq hc =>
   ⟨za7 (zax (za4 X nq)) (za8 _ _ _),rfl,pre,_,rfl,uh HP,hc,Set1.zer (zaa (uh HG) (za4 X nq)) (uh HR) _⟩
  by_cases h1:x.tx=name
  ·have hc:capB old name x=true:=by simp [capB,h1]
   have HC:=bV hc
   rw [h1] at cx
   clear h1 hc good
   gi_wp2_with fail
   refine zcj lr (by kernel_rfl) (by kernel_rfl) (by kernel_rfl) ?_
   repeat (gi_big_quiet_step (fail))
   refine wpQuietIn_nil ?_
   intro _ hw'
   obtain ⟨nq,hw''⟩:=hw'
   subst hw''
   gi_wp2_with fail
   exact uh stop nq (uh HC)
  ·have e1:(x.tx==name)=false:=by simpa using h1
   by_cases h2:x.tx=old
   ·obtain ⟨bl,hbl⟩:∃bl,(x.e.look name).isSome=bl:=⟨_,rfl⟩
    have hc:capB old name x=bl:=by simp [capB,h2,hne.symm,hbl]
    have HC:=bV hc
    rw [hbl] at HS
    rw [h2] at cx e1
    clear h1 h2 hc hbl
    gi_wp2_with fail
    refine zcj lr (by kernel_rfl) (by kernel_rfl) (by kernel_rfl) ?_
    repeat (gi_big_quiet_step (exact ⟨rfl,callsIn_wide.2 ((uh HS _).mono (by rintro e w' ⟨rfl,rfl⟩; exact ⟨rfl,_,rfl⟩))⟩))
    refine wpQuietIn_nil ?_
    intro _ hw'
    obtain ⟨nq,hw''⟩:=hw'
    subst hw''
    cases bl with
    | true =>
     clear good
     gi_wp2_with fail
     exact uh stop nq (uh HC)
    | false =>
     have GD:=good (uh HC)
     clear good
     gi_wp2_with fail
     exact GD.out _ (za4 X nq)
   ·have e2:(x.tx==old)=false:=by simpa using h2
    have hc:capB old name x=false:=by simp [capB,h1,h2]
    have GD:=good hc
    clear h1 h2 hc good
    gi_wp2_with fail
    refine zcj lr (by kernel_rfl) (by kernel_rfl) (by kernel_rfl) ?_
    repeat (gi_big_quiet_step (fail))
    refine wpQuietIn_nil ?_
    intro _ hw'
    obtain ⟨nq,hw''⟩:=hw'
    subst hw''
    gi_wp2_with fail
    exact GD.out _ (za4 X nq)
 case done =>
  rintro D1 xs1 X1 hD1 hxs1 ⟨hpre1,hg1⟩ hK0
  have hf1:(za5 L1).any (capB old name)=false:=by
   rw [List.any_eq_false]
   intro z hz
   rw [<-hxs1] at hz
   obtain ⟨y,hy,rfl⟩:=List.mem_map.1 hz
   rw [hpre1 y hy]
   simp
  have nX:=zbG hg1 n3
  have rX:=zbG hg1 r3
  have oX:=zbG hg1 o3
  have kX:=zbG hg1 hk3
  have ck2:X1.cell? ⟨k,1,none⟩=some (.iface T2 (.pointer (some ⟨m2,0,none⟩))):=zcR kX
  gi_wp2_with fail
  rw [roundsIn_succ]
  gi_wp2_with fail
  refine ⟨trivial,?_⟩
  refine (callsIn_wide.2 (zkq X1 ⟨T2,m2,rfl⟩)).mono ?_
  rintro e1 w4 ⟨rfl,rfl⟩
  gi_wp2_with fail
  obtain ⟨V3,hV3⟩:∃V3,X1.alloc (.cells #[.iface T2 (.pointer (some ⟨m2,0,none⟩))] 68)=V3:=⟨_,rfl⟩
  have G4:X1.grownBy V3 none:=by rw [<-hV3]; exact zwA _ _ none
  have z4:V3.heap.size=X1.heap.size+1:=by rw [<-hV3]; simp
  have he4:V3.heap[X1.heap.size]? = some (.cells #[.iface T2 (.pointer (some ⟨m2,0,none⟩))] 68 (0,0)):=by rw [<-hV3]; exact zad X1 _
  have hq4:=hm3.kp ((Kp.of_grown hg1).trans (Kp.of_grown G4))
  have p3:=zbG G4 nX
  have q3:=zbG G4 rX
  have u3:=zbG G4 oX
  have hK1:V3.heap[D1]? = some (.deferred (some [])):=zbG G4 hK0
  have lD1:D1<V3.heap.size:=(zgE.1 hK1).1
  have f3:=zaa (zaa g3 hg1) G4
  have zz:=hg1.size
  rw [hV3]
  clear hV3 nX rX oX kX ck2 hK0 hpre1 hg1 G4 hxs1
  refine zla (p:=27) (q:=28) (d1:=8) (d2:=9) rfl (enters_of Tryz.func185 (by kernel_rfl) rfl) (znc he4 hq4) (fun x=>FOk.own x _) (fun h k=>h.trans k) zlj (Below.refl _ _)
   (fun pre X=>(∀z∈pre,capB old name z.1.1=false)/\V3.grownBy X none)
   (fun c pre X=>c = .ret/\∃init x,pre=init ++ [x]/\(∀z∈init,capB old name z.1.1=false)/\capB old name x.1.1=true/\Set1 V3 (w.heap.size+1) (.bool true) 4 X) ?own2 ?ownx2 ⟨by simp,zab _⟩ ?assign2 ?body2 ?done2 ?stop2
  case own2 =>
   rintro s X Y row ⟨h1,h2⟩ hg hr
   exact ⟨h1,zc1 (β := Unit) V3 (znL _) () X Y row h2 hg hr⟩
  case ownx2 =>
   rintro c s X Y row ⟨h0,init,x,h1,h2,h3,h4⟩ hg hr
   exact ⟨h0,init,x,h1,h2,h3,Set1.own (β := Unit) (znL _) (by omega) () X Y row h4 hg hr⟩
  case assign2 =>
   intro l x X K hK
   simp only [zsA,zsZ,zsS] at hK ⊢
   gi_wp2
   exact hK
  case body2 =>
   rintro lr pre ⟨⟨x,ev⟩,hxf,hev⟩ X hlr hrec ⟨hpre,hgX⟩ hlt hok
   obtain ⟨a,ha⟩:=id hev
   obtain rfl:ev = .pointer a:=ha
   obtain ⟨hbat,hnb⟩:=hok
   dsimp only at hbat hnb
   obtain ⟨_,_,cx,_,_,_⟩:=zaf hnb
   have HP:=bV hpre
   have HG:=bV hgX
   have nX:=zbG hgX p3
   have rX:=zbG hgX q3
   have oX:=zbG hgX u3
   have cN:X.cell? ⟨w.heap.size,0,none⟩=some (ug name):=(zag nX).1
   have cO:X.cell? ⟨w.heap.size+2,0,none⟩=some (ug old):=(zag oX).1
   have HR:=bV rX
   have HS:=bV (fun n=>zlb (w:=X.drewN n) (hbat.grown (za4 X n)) name)
   simp only [zsA,zsZ,zsS]
   have hmx:Tryz.prog.follows .mixedOrders=true:=by kernel_rfl
   have good:capB old name x=false->Hid (∀X',X.grownBy X' none->KeepsFrom V3.heap.size X X'/\Kp X X'/\(∀z∈pre ++ [(⟨(x,.pointer a),hxf,hev⟩:FIn L2)],capB old name z.1.1=false)/\V3.grownBy X' none):=fun hc X' hg' =>
    ⟨zax hg',Kp.of_grown hg',fun z hz=>(by
     rcases zmA.1 hz with hz | hz
     ·exact uh HP z hz
     ·simp only [List.mem_singleton] at hz
      subst hz
      exact hc),zaa (uh HG) hg'⟩
   clear hgX hpre nX oX rX hnb hbat
   have hfn:Fence.wide.fn 118:=trivial
   obtain ⟨cr,fr⟩:=zag (uh HR)
   have stop:Hid (∀nq,capB old name x=true->ownPostG V3.heap.size Kp (fun pre X=>(∀z∈pre,capB old name z.1.1=false)/\V3.grownBy X none) (fun c pre X=>c = .ret/\∃init x,pre=init ++ [x]/\(∀z∈init,capB old name z.1.1=false)/\capB old name x.1.1=true/\Set1 V3 (w.heap.size+1) (.bool true) 4 X) (pre ++ [(⟨(x,.pointer a),hxf,hev⟩:FIn L2)]) X .ret {tmps:=#[],defers:=[]} ((X.drewN nq).setCell ⟨w.heap.size+1,0,none⟩ (.bool true))):=fun nq hc =>
    ⟨za7 (zax (za4 X nq)) (za8 _ _ _),rfl,pre,_,rfl,uh HP,hc,Set1.zer (zaa (uh HG) (za4 X nq)) (uh HR) _⟩
   by_cases h1:x.tx=name
   ·have hc:capB old name x=true:=by simp [capB,h1]
    have HC:=bV hc
    rw [h1] at cx
    clear h1 hc good
    gi_wp2_with fail
    refine zcj lr (by kernel_rfl) (by kernel_rfl) (by kernel_rfl) ?_
    repeat (gi_big_quiet_step (fail))
    refine wpQuietIn_nil ?_
    intro _ hw'
    obtain ⟨nq,hw''⟩:=hw'
    subst hw''
    gi_wp2_with fail
    exact uh stop nq (uh HC)
   ·have e1:(x.tx==name)=false:=by simpa using h1
    by_cases h2:x.tx=old
    ·obtain ⟨bl,hbl⟩:∃bl,(x.e.look name).isSome=bl:=⟨_,rfl⟩
     have hc:capB old name x=bl:=by simp [capB,h2,hne.symm,hbl]
     have HC:=bV hc
     rw [hbl] at HS
     rw [h2] at cx e1
     clear h1 h2 hc hbl
     gi_wp2_with fail
     refine zcj lr (by kernel_rfl) (by kernel_rfl) (by kernel_rfl) ?_
     repeat (gi_big_quiet_step (exact ⟨rfl,callsIn_wide.2 ((uh HS _).mono (by rintro e w' ⟨rfl,rfl⟩; exact ⟨rfl,_,rfl⟩))⟩))
     refine wpQuietIn_nil ?_
     intro _ hw'
     obtain ⟨nq,hw''⟩:=hw'
     subst hw''
     cases bl with
     | true =>
      clear good
      gi_wp2_with fail
      exact uh stop nq (uh HC)
     | false =>
      have GD:=good (uh HC)
      clear good
      gi_wp2_with fail
      exact GD.out _ (za4 X nq)
    ·have e2:(x.tx==old)=false:=by simpa using h2
     have hc:capB old name x=false:=by simp [capB,h1,h2]
     have GD:=good hc
     clear h1 h2 hc good
     gi_wp2_with fail
     refine zcj lr (by kernel_rfl) (by kernel_rfl) (by kernel_rfl) ?_
     repeat (gi_big_quiet_step (fail))
     refine wpQuietIn_nil ?_
     intro _ hw'
     obtain ⟨nq,hw''⟩:=hw'
     subst hw''
     gi_wp2_with fail
     exact GD.out _ (za4 X nq)
  case done2 =>
   rintro D xs X hD hxs ⟨hpre2,hg⟩ hK
   have rX:=zbG hg q3
   obtain ⟨cr,fr⟩:=zag rX
   gi_wp2_with fail
   rw [roundsIn_succ]
   gi_wp2_with fail
   have st:=Set1.zer hg rX (.bool false)
   have hK2:(X.setCell ⟨w.heap.size+1,0,none⟩ (.bool false)).heap[D]? = some (.deferred (some [])):=(za8 (B:=0) X _ _).same D _ (Nat.zero_le _) hK rfl
   refine ⟨by simp,.inl ⟨_,_,rfl,run_takeDeferred hK2,?_⟩⟩
   have hD1a:D1≠w.heap.size+1:=by omega
   have st':=Set1.own (β := Unit) (znL _) (by omega) () _ _ (some D) st (grownBy_putObj' _ D (.deferred none)) (fun r e=>by cases e; exact ⟨by omega,_,hK2,rfl⟩)
   have hK3:=(st'.old D1 (by omega) hD1a).trans hK1
   refine ⟨by simp,.inl ⟨_,_,rfl,run_takeDeferred hK3,?_⟩⟩
   have st'':=zvc st' (by omega:w.heap.size+1<D1) D1 rfl hK3
   obtain ⟨e0,_⟩:=zag st''.1
   refine ⟨.bool false,by simp [results,Tryz.results66,go_sem,e0],?_,?_⟩
   ·have:(za5 L2).any (capB old name)=false:=by
     rw [List.any_eq_false]
     intro z hz
     rw [<-hxs] at hz
     obtain ⟨y,hy,rfl⟩:=List.mem_map.1 hz
     rw [hpre2 y hy]
     simp
    rw [hf1,this]
    rfl
   ·exact st''.2 w f3 (by omega) (by omega)
  case stop2 =>
   rintro D c pre2 X hD hpre2 ⟨rfl,init,x,h1,h2,h3,h4⟩ hK
   gi_wp2_with fail
   refine ⟨by simp,.inl ⟨_,_,rfl,run_takeDeferred hK,?_⟩⟩
   have st':=Set1.own (β := Unit) (znL _) (by omega) () _ _ (some D) h4 (grownBy_putObj' _ D (.deferred none)) (fun r e=>by cases e; exact ⟨by omega,_,hK,rfl⟩)
   have hK3:=(st'.old D1 (by omega) (by omega)).trans hK1
   refine ⟨by simp,.inl ⟨_,_,rfl,run_takeDeferred hK3,?_⟩⟩
   have st'':=zvc st' (by omega:w.heap.size+1<D1) D1 rfl hK3
   obtain ⟨e0,_⟩:=zag st''.1
   refine ⟨.bool true,by simp [results,Tryz.results66,go_sem,e0],?_,?_⟩
   ·have:(za5 L2).any (capB old name)=true:=by
     rw [List.any_eq_true]
     refine ⟨x.1.1,?_,h3⟩
     exact hpre2.subset (by rw [h1]; simp)
    rw [this]
    simp
   ·exact st''.2 w f3 (by omega) (by omega)
 case stop =>
  rintro D c pre X hD hpre ⟨rfl,init,x,h1,h2,h3,h4⟩ hK
  gi_wp2_with fail
  refine ⟨by simp,.inl ⟨_,_,rfl,run_takeDeferred hK,?_⟩⟩
  have st':=Set1.own (β := Unit) (znL _) (by omega) () _ _ (some D) h4 (grownBy_putObj' _ D (.deferred none)) (fun r e=>by cases e; exact ⟨by omega,_,hK,rfl⟩)
  obtain ⟨e0,_⟩:=zag st'.res
  refine ⟨.bool true,by simp [results,Tryz.results66,go_sem,e0],?_,?_⟩
  ·have:(za5 L1).any (capB old name)=true:=by
    rw [List.any_eq_true]
    refine ⟨x.1.1,?_,h3⟩
    exact hpre.subset (by rw [h1]; simp)
   rw [this]
   rfl
  ·refine ⟨st'.os.trans g3.os,st'.tape.trans g3.tape,st'.output.trans g3.output,by have:=st'.size; omega,fun k hk _=>(st'.old k (by omega) (by omega)).trans (g3.block k hk (by simp))⟩
open Go.RowKit Go.Shelf
attribute [local go_sem] Oper.semAt_some
theorem zlw {w:World} {PT:TypeId} {b o:Nat} {c:Array Value} {ct:TypeId} {name:List UInt8}
  (hB:∀W,Calls Tryz.prog 58 #[.iface PT (.pointer (some ⟨b,0,none⟩))] W fun e w'=>e = .returned (.pointer (some ⟨b,o,none⟩))/\W=w')
  (hb:w.heap[b]? = some (.cells c ct (0,0))) (h0:c[o]? = some (ug name)) :
  Calls Tryz.prog 66 #[.iface PT (.pointer (some ⟨b,0,none⟩)),ug name] w fun e w'=>e = .returned (.bool false)/\w.grownBy w' none:=by
 refine (callsIn_wide (n:=3)).1 ?_
 refine callsIn_of_wp_marks Tryz.func66 rfl trivial ?_
 simp only [Tryz.ntmps66,List.size_toArray,List.length_cons,List.length_nil,Nat.reduceAdd,Nat.reduceSub,Array.replicate_succ,Array.replicate_zero,List.push_toArray,List.append_toArray,List.nil_append,List.cons_append]
 obtain ⟨W0,hW0⟩:∃W0,(w.alloc (.cells #[ug name] 9)).alloc (.cells #[.bool false] 4)=W0:=⟨_,rfl⟩
 have G0:w.grownBy W0 none:=by rw [<-hW0]; exact zae (zae (zab _) _) _
 have z0:W0.heap.size=w.heap.size+2:=by rw [<-hW0]; simp
 have n0:W0.heap[w.heap.size]? = some (.cells #[ug name] 9 (0,0)):=by rw [<-hW0]; exact (Below.heap_alloc _ _ _ (by simp)).trans (zad w _)
 have r0:W0.heap[w.heap.size+1]? = some (.cells #[.bool false] 4 (0,0)):=by
  rw [<-hW0]
  have:=zad (w.alloc (.cells #[ug name] 9)) (.cells #[.bool false] 4)
  rw [World.size_alloc] at this
  exact this
 have hb0:=zbG G0 hb
 have cb:W0.cell? ⟨b,o,none⟩=some (ug name):=by rw [cell_of_row _ _ _ _ _ _ hb0]; exact h0
 have cn:W0.cell? ⟨w.heap.size,0,none⟩=some (ug name):=(zag n0).1
 gi_wp2_with fail
 refine ⟨trivial,?_⟩
 refine (callsIn_wide.2 (hB W0)).mono ?_
 rintro e1 w1 ⟨rfl,rfl⟩
 obtain ⟨cr,fr⟩:=zag r0
 obtain ⟨W1,hW1⟩:∃W1,W0.alloc (.cells #[ug name] 9)=W1:=⟨_,rfl⟩
 have G1:W0.grownBy W1 none:=by rw [<-hW1]; exact zwA _ _ none
 have z1:W1.heap.size=w.heap.size+3:=by rw [<-hW1]; simp; omega
 have o1:W1.heap[w.heap.size+2]? = some (.cells #[ug name] 9 (0,0)):=by
  have:=zad W0 (.cells #[ug name] 9)
  rw [z0] at this
  rw [<-hW1]
  exact this
 have n1:=zbG G1 n0
 have r1:=zbG G1 r0
 have cn1:W1.cell? ⟨w.heap.size,0,none⟩=some (ug name):=(zag n1).1
 have co1:W1.cell? ⟨w.heap.size+2,0,none⟩=some (ug name):=(zag o1).1
 obtain ⟨cr1,fr1⟩:=zag r1
 have g1:=zaa G0 G1
 clear cr fr
 gi_wp2_with fail
 have st:=Set1.zer (zab W1) r1 (.bool false)
 obtain ⟨e0,_⟩:=zag st.res
 refine ⟨.bool false,by simp [results,Tryz.results66,go_sem,e0],rfl,?_⟩
 exact ⟨st.os.trans g1.os,st.tape.trans g1.tape,st.output.trans g1.output,by have:=st.size; omega,fun k hk _=>(st.old k (by omega) (by omega)).trans (g1.block k hk (by simp))⟩
def BEn.names:Tw.BEn->List (List UInt8)
 | .nil=>[]
 | .cons n _ o=>n::BEn.names o
theorem BEn.zf3 (x:List UInt8):∀e:Tw.BEn,e.look x=none↔x∉BEn.names e
 | .nil=>by simp [Tw.BEn.look,BEn.names]
 | .cons n k o=>by
  simp only [Tw.BEn.look,BEn.names,zmC,not_or]
  by_cases h:n=x
  ·simp [h]
  ·rw [if_neg h,BEn.zf3 x o]
   exact ⟨fun q=>⟨fun e=>h e.symm,q⟩,fun q=>q.2⟩
theorem zay (f:NB->Bool) (L M:List NB):(za5 (L++M)).any f=((za5 L).any f||(za5 M).any f):=by rw [zgz,List.any_append]
theorem NL.capt (old name:List UInt8) {w:World} {hi:Nat}:∀ {t:Tw.T} {v:Value} {e:Tw.BEn} {L:List NB},NL w hi t v e L->((za5 L).any (capB old name)=true↔t.capt old name (BEn.names e))
 | .name fr to x,_,e,_,⟨b,_,rfl⟩=>by
  simp only [Tw.T.capt]
  have hk:(NB.k ⟨b,fr,to,x,e⟩=none)↔x∉BEn.names e:=BEn.zf3 x e
  have hs:(e.look name).isSome=true↔name∈BEn.names e:=by
   have:=BEn.zf3 name e
   cases h:e.look name with
   | none=>rw [h] at this; simp; exact this.1 rfl
   | some a=>rw [h] at this; simp at this; simp [this]
  by_cases hx:x∈BEn.names e
  ·have:¬NB.k ⟨b,fr,to,x,e⟩=none:=fun q=>hk.1 q hx
   simp [za5,this,hx]
  ·have:NB.k ⟨b,fr,to,x,e⟩=none:=hk.2 hx
   simp [za5,this,hx,capB,hs]
 | .int ..,_,_,_,⟨_,rfl⟩=>by simp [za5,Tw.T.capt]
 | .truth ..,_,_,_,⟨_,rfl⟩=>by simp [za5,Tw.T.capt]
 | .side ..,_,_,_,⟨_,rfl⟩=>by simp [za5,Tw.T.capt]
 | .bracket ..,_,_,_,⟨_,_,r1⟩=>by have h:=NL.capt old name r1; exact h
 | .pair ..,_,_,_,⟨_,_,_,_,_,r1,r2,rfl⟩=>by rw [zay,Bool.or_eq_true,NL.capt old name r1,NL.capt old name r2]; rfl
 | .call ..,_,_,_,⟨_,_,_,_,_,r1,r2,rfl⟩=>by rw [zay,Bool.or_eq_true,NL.capt old name r1,NL.capt old name r2]; rfl
 | .binary ..,_,_,_,⟨_,_,_,_,_,r1,r2,rfl⟩=>by rw [zay,Bool.or_eq_true,NL.capt old name r1,NL.capt old name r2]; rfl
 | .cond ..,_,_,_,⟨_,_,_,_,_,_,_,r1,r2,r3,rfl⟩=>by
  rw [zay,zay,Bool.or_eq_true,Bool.or_eq_true,NL.capt old name r1,NL.capt old name r2,NL.capt old name r3]
  simp only [Tw.T.capt,or_assoc]
 | .fn ..,_,_,_,⟨_,_,_,r1⟩=>by have h:=NL.capt old name r1; exact h
 | .lett _ _ rc _ _ _ _,_,_,_,⟨_,_,_,_,_,_,r1,r2,rfl⟩=>by
  rw [zay,Bool.or_eq_true,NL.capt old name r1,NL.capt old name r2]
  cases rc <;> rfl
theorem ziz {w:World} {hi:Nat} {x:TN} (hr:Rep w 0 hi x.t x.v) {A:Addr} (hA:x.bind=some A) (name:List UInt8) :
  Calls Tryz.prog 66 #[x.v,ug name] w fun e w'=>(∃cb:Bool,e = .returned (.bool cb)/\(cb=true↔name≠x.t.bname/\x.t.captN name))/\w.grownBy w' none:=by
 obtain ⟨t,v⟩:=x
 cases t with
 | fn fr to bn bat b =>
  obtain ⟨v1,⟨k,_,_,rfl,hb⟩,r1⟩:=hr
  obtain ⟨L1,n1⟩:=NL.of_rep .nil r1
  by_cases hn:name=bn
  ·subst hn
   refine (zlw (o:=2) (fun W=>zjg W k) hb rfl).mono ?_
   rintro e w' ⟨rfl,hg⟩
   exact ⟨⟨false,rfl,by simp [Tw.T.bname]⟩,hg⟩
  ·refine (zne (o:=2) hn (fun W=>zjg W k) hb rfl (fun W hg=>ybk n1.iface (zbG hg hb)) n1).mono ?_
   rintro e w' ⟨rfl,hg⟩
   refine ⟨⟨_,rfl,?_⟩,hg⟩
   rw [n1.capt bn name]
   exact ⟨fun h=>⟨hn,h⟩,fun h=>h.2⟩
 | lett fr to rc bn bat d b =>
  obtain ⟨v1,v2,⟨k,_,_,rfl,hb⟩,r1,r2⟩:=hr
  obtain ⟨L1,n1⟩:=NL.of_rep .nil r1
  obtain ⟨L2,n2⟩:=NL.of_rep .nil r2
  by_cases hn:name=bn
  ·subst hn
   refine (zlw (o:=3) (fun W=>zgy W k) hb rfl).mono ?_
   rintro e w' ⟨rfl,hg⟩
   exact ⟨⟨false,rfl,by simp [Tw.T.bname]⟩,hg⟩
  ·cases rc with
   | false =>
    refine (zne (o:=3) hn (fun W=>zgy W k) hb rfl (fun W hg=>by simpa using zsk n1.iface n2.iface (zbG hg hb)) n2).mono ?_
    rintro e w' ⟨rfl,hg⟩
    refine ⟨⟨_,rfl,?_⟩,hg⟩
    rw [n2.capt bn name]
    simp only [Tw.T.captN,Bool.false_eq_true,false_and,false_or]
    exact ⟨fun h=>⟨hn,h⟩,fun h=>h.2⟩
   | true =>
    refine (ztm (o:=3) hn (fun W=>zgy W k) hb rfl (fun W hg=>by simpa using zsk n1.iface n2.iface (zbG hg hb)) n1 n2).mono ?_
    rintro e w' ⟨rfl,hg⟩
    refine ⟨⟨_,rfl,?_⟩,hg⟩
    rw [Bool.or_eq_true,n1.capt bn name,n2.capt bn name]
    simp only [Tw.T.captN,true_and]
    exact ⟨fun h=>⟨hn,h⟩,fun h=>h.2⟩
 | _=>simp [TN.bind] at hA
end Go.Proofs.YtckhafpejefbbaaGreatDoor
