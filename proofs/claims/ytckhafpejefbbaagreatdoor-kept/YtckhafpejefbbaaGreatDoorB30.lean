/- Texts of the proof, put together: AltInl8, AltInl9, AltInlR, TextReq, AltRenR, KeptThy, TextInl, SprThy, BackWalk, SprWalk. -/
import Derived.Test.YtckhafpejefbbaaGreatDoorB29
import Derived.Test.YtckhafpejefbbaaGreatDoorB25
import Derived.Test.YtckhafpejefbbaaGreatDoorB28
import Derived.Test.YtckhafpejefbbaaGreatDoorB15
import Derived.Test.YtckhafpejefbbaaGreatDoorB16

set_option maxRecDepth 100000
set_option maxHeartbeats 4000000
namespace Go.Proofs.YtckhafpejefbbaaGreatDoor
open Go.RowKit
theorem zix (x:List UInt8) (e:Tw.BEn):(e.look x).isSome=true↔x∈BEn.names e:=by
 have:=BEn.zf3 x e
 cases h:e.look x with
 | none=>rw [h] at this; simp; exact this.1 rfl
 | some a=>rw [h] at this; simp at this; simp [this]
theorem NL.freeIn (z:List UInt8) {w:World} {hi:Nat}:∀ {t:Tw.T} {v:Value} {e:Tw.BEn} {L:List NB},NL w hi t v e L->((za5 L).any (fun y=>decide (y.tx=z))=true↔Tw.Inl.freeIn z t (BEn.names e))
 | .name fr to x,_,e,_,⟨b,_,rfl⟩=>by
  simp only [Tw.Inl.freeIn]
  have hk:(NB.k ⟨b,fr,to,x,e⟩=none)↔x∉BEn.names e:=BEn.zf3 x e
  by_cases hx:x∈BEn.names e
  ·have:¬NB.k ⟨b,fr,to,x,e⟩=none:=fun q=>hk.1 q hx
   simp only [za5,List.filter_cons,this,decide_false,Bool.false_eq_true,if_false,List.filter_nil,List.any_nil,false_iff,not_and,Decidable.not_not]
   exact fun q=>q ▸ hx
  ·have:NB.k ⟨b,fr,to,x,e⟩=none:=hk.2 hx
   simp only [za5,List.filter_cons,this,decide_true,if_true,List.filter_nil,List.any_cons,List.any_nil,Bool.or_false,decide_eq_true_eq]
   exact ⟨fun q=>⟨q,q ▸ hx⟩,fun q=>q.1⟩
 | .int ..,_,_,_,⟨_,rfl⟩=>by simp [za5,Tw.Inl.freeIn]
 | .truth ..,_,_,_,⟨_,rfl⟩=>by simp [za5,Tw.Inl.freeIn]
 | .side ..,_,_,_,⟨_,rfl⟩=>by simp [za5,Tw.Inl.freeIn]
 | .bracket ..,_,_,_,⟨_,_,r1⟩=>by have h:=NL.freeIn z r1; exact h
 | .pair ..,_,_,_,⟨_,_,_,_,_,r1,r2,rfl⟩=>by rw [zay,Bool.or_eq_true,NL.freeIn z r1,NL.freeIn z r2]; rfl
 | .call ..,_,_,_,⟨_,_,_,_,_,r1,r2,rfl⟩=>by rw [zay,Bool.or_eq_true,NL.freeIn z r1,NL.freeIn z r2]; rfl
 | .binary ..,_,_,_,⟨_,_,_,_,_,r1,r2,rfl⟩=>by rw [zay,Bool.or_eq_true,NL.freeIn z r1,NL.freeIn z r2]; rfl
 | .cond ..,_,_,_,⟨_,_,_,_,_,_,_,r1,r2,r3,rfl⟩=>by
  rw [zay,zay,Bool.or_eq_true,Bool.or_eq_true,NL.freeIn z r1,NL.freeIn z r2,NL.freeIn z r3]
  simp only [Tw.Inl.freeIn,or_assoc]
 | .fn ..,_,_,_,⟨_,_,_,r1⟩=>by have h:=NL.freeIn z r1; exact h
 | .lett _ _ rc _ _ _ _,_,_,_,⟨_,_,_,_,_,_,r1,r2,rfl⟩=>by
  rw [zay,Bool.or_eq_true,NL.freeIn z r1,NL.freeIn z r2]
  cases rc <;> rfl
theorem NL.captD (x:List UInt8) {w:World} {hi:Nat} {d:Tw.T} {dv:Value} {LD:List NB} (hd:NL w hi d dv .nil LD):∀ {t:Tw.T} {v:Value} {e:Tw.BEn} {L:List NB},NL w hi t v e L->((za5 L).any (capD x LD)=true↔Tw.Inl.captD x d t (BEn.names e))
 | .name fr to z,_,e,_,⟨b,_,rfl⟩=>by
  simp only [Tw.Inl.captD]
  have hk:(NB.k ⟨b,fr,to,z,e⟩=none)↔z∉BEn.names e:=BEn.zf3 z e
  have hy:((za5 LD).any fun y=>(e.look y.tx).isSome)=true↔∃y,Tw.Inl.freeIn y d []/\y∈BEn.names e:=by
   rw [List.any_eq_true]
   constructor
   ·rintro ⟨y,hy,h⟩
    exact ⟨y.tx,(NL.freeIn y.tx hd).1 (List.any_eq_true.2 ⟨y,hy,by simp⟩),(zix _ _).1 h⟩
   ·rintro ⟨y,hy,h⟩
    obtain ⟨q,hq,e1⟩:=List.any_eq_true.1 ((NL.freeIn y hd).2 hy)
    have e2:q.tx=y:=by simpa using e1
    exact ⟨q,hq,by rw [e2]; exact (zix _ _).2 h⟩
  by_cases hx:z∈BEn.names e
  ·have:¬NB.k ⟨b,fr,to,z,e⟩=none:=fun q=>hk.1 q hx
   simp only [za5,List.filter_cons,this,decide_false,Bool.false_eq_true,if_false,List.filter_nil,List.any_nil,false_iff,not_and]
   exact fun q r=>absurd (q ▸ hx) r
  ·have:NB.k ⟨b,fr,to,z,e⟩=none:=hk.2 hx
   have e0:za5 [(⟨b,fr,to,z,e⟩:NB)]=[⟨b,fr,to,z,e⟩]:=by simp [za5,this]
   rw [e0]
   simp only [List.any_cons,List.any_nil,Bool.or_false,capD,Bool.and_eq_true,decide_eq_true_eq]
   rw [hy]
   exact ⟨fun q=>⟨q.1,q.1 ▸ hx,q.2⟩,fun q=>⟨q.1,q.2.2⟩⟩
 | .int ..,_,_,_,⟨_,rfl⟩=>by simp [za5,Tw.Inl.captD]
 | .truth ..,_,_,_,⟨_,rfl⟩=>by simp [za5,Tw.Inl.captD]
 | .side ..,_,_,_,⟨_,rfl⟩=>by simp [za5,Tw.Inl.captD]
 | .bracket ..,_,_,_,⟨_,_,r1⟩=>by have h:=NL.captD x hd r1; exact h
 | .pair ..,_,_,_,⟨_,_,_,_,_,r1,r2,rfl⟩=>by rw [zay,Bool.or_eq_true,NL.captD x hd r1,NL.captD x hd r2]; rfl
 | .call ..,_,_,_,⟨_,_,_,_,_,r1,r2,rfl⟩=>by rw [zay,Bool.or_eq_true,NL.captD x hd r1,NL.captD x hd r2]; rfl
 | .binary ..,_,_,_,⟨_,_,_,_,_,r1,r2,rfl⟩=>by rw [zay,Bool.or_eq_true,NL.captD x hd r1,NL.captD x hd r2]; rfl
 | .cond ..,_,_,_,⟨_,_,_,_,_,_,_,r1,r2,r3,rfl⟩=>by
  rw [zay,zay,Bool.or_eq_true,Bool.or_eq_true,NL.captD x hd r1,NL.captD x hd r2,NL.captD x hd r3]
  simp only [Tw.Inl.captD,or_assoc]
 | .fn ..,_,_,_,⟨_,_,_,r1⟩=>by have h:=NL.captD x hd r1; exact h
 | .lett _ _ rc _ _ _ _,_,_,_,⟨_,_,_,_,_,_,r1,r2,rfl⟩=>by
  rw [zay,Bool.or_eq_true,NL.captD x hd r1,NL.captD x hd r2]
  cases rc <;> rfl
def nf (y:NB):Nat×Nat:=(y.nb,y.fr)
theorem zzf {w:World} {hi fr to k k' bat bat':Nat} {v v1 v1':Value} {bn bn':List UInt8} (h:k<hi/\v = .iface 215 (.pointer (some ⟨k,0,none⟩))/\w.heap[k]? = some (.cells #[.int .i64 fr,.int .i64 to,ug bn,.int .i64 bat,v1] 235 (0,0))) (h':k'<hi/\v = .iface 215 (.pointer (some ⟨k',0,none⟩))/\w.heap[k']? = some (.cells #[.int .i64 fr,.int .i64 to,ug bn',.int .i64 bat',v1'] 235 (0,0))):v1=v1':=by
 obtain ⟨_,rfl,h1⟩:=h
 obtain ⟨_,e,h2⟩:=h'
 cases e
 rw [h1] at h2
 simp at h2
 exact h2.2.2
theorem zzg {w:World} {hi fr to k k' bat bat':Nat} {r r':Bool} {v v1 v1' v2 v2':Value} {bn bn':List UInt8} (h:k<hi/\v = .iface 136 (.pointer (some ⟨k,0,none⟩))/\w.heap[k]? = some (.cells #[.int .i64 fr,.int .i64 to,.bool r,ug bn,.int .i64 bat,v1,v2] 140 (0,0))) (h':k'<hi/\v = .iface 136 (.pointer (some ⟨k',0,none⟩))/\w.heap[k']? = some (.cells #[.int .i64 fr,.int .i64 to,.bool r',ug bn',.int .i64 bat',v1',v2'] 140 (0,0))):v1=v1'/\v2=v2':=by
 obtain ⟨_,rfl,h1⟩:=h
 obtain ⟨_,e,h2⟩:=h'
 cases e
 rw [h1] at h2
 simp at h2
 exact ⟨h2.2.2.2.1,h2.2.2.2.2⟩
theorem NL.same {w:World} {hi:Nat}:∀ {t:Tw.T} {v:Value} {e e':Tw.BEn} {L L':List NB},NL w hi t v e L->NL w hi t v e' L'->L.map nf=L'.map nf
 | .name ..,_,_,_,_,_,⟨b,⟨h1,_⟩,rfl⟩,⟨b',⟨h1',_⟩,rfl⟩=>by rw [h1] at h1'; cases h1'; rfl
 | .int ..,_,_,_,_,_,⟨_,rfl⟩,⟨_,rfl⟩=>rfl
 | .truth ..,_,_,_,_,_,⟨_,rfl⟩,⟨_,rfl⟩=>rfl
 | .side ..,_,_,_,_,_,⟨_,rfl⟩,⟨_,rfl⟩=>rfl
 | .bracket ..,_,_,_,_,_,⟨_,h,r1⟩,⟨_,h',r1'⟩=>by cases nodeAt.inj h h'; exact NL.same r1 r1'
 | .pair ..,_,_,_,_,_,⟨_,_,_,_,h,r1,r2,rfl⟩,⟨_,_,_,_,h',r1',r2',rfl⟩=>by cases nodeAt.inj h h'; rw [List.map_append,List.map_append,NL.same r1 r1',NL.same r2 r2']
 | .call ..,_,_,_,_,_,⟨_,_,_,_,h,r1,r2,rfl⟩,⟨_,_,_,_,h',r1',r2',rfl⟩=>by cases nodeAt.inj h h'; rw [List.map_append,List.map_append,NL.same r1 r1',NL.same r2 r2']
 | .binary ..,_,_,_,_,_,⟨_,_,_,_,h,r1,r2,rfl⟩,⟨_,_,_,_,h',r1',r2',rfl⟩=>by cases nodeAt.inj h h'; rw [List.map_append,List.map_append,NL.same r1 r1',NL.same r2 r2']
 | .cond ..,_,_,_,_,_,⟨_,_,_,_,_,_,h,r1,r2,r3,rfl⟩,⟨_,_,_,_,_,_,h',r1',r2',r3',rfl⟩=>by cases nodeAt.inj h h'; simp only [List.map_append,NL.same r1 r1',NL.same r2 r2',NL.same r3 r3']
 | .fn ..,_,_,_,_,_,⟨_,_,h,r1⟩,⟨_,_,h',r1'⟩=>by cases zzf h h'; exact NL.same r1 r1'
 | .lett ..,_,_,_,_,_,⟨_,_,_,_,_,h,r1,r2,rfl⟩,⟨_,_,_,_,_,h',r1',r2',rfl⟩=>by
  obtain ⟨e1,e2⟩:=zzg h h'
  subst e1
  subst e2
  rw [List.map_append,List.map_append,NL.same r1 r1',NL.same r2 r2']
theorem ydr {w:World} {hi fr to bat k:Nat} {v v1 v1':Value} {bn:List UInt8} (h:k<hi/\v = .iface 215 (.pointer (some ⟨k,0,none⟩))/\w.heap[k]? = some (.cells #[.int .i64 fr,.int .i64 to,ug bn,.int .i64 bat,v1] 235 (0,0))) (h':nodeAt w 0 hi fr to [ug bn,.int .i64 bat,v1'] 215 235 v):v1=v1':=by
 obtain ⟨b,_,q,hv,hb⟩:=h'
 exact zzf h ⟨q,hv,hb⟩
theorem zvz {w:World} {hi fr to bat k:Nat} {r:Bool} {v v1 v1' v2 v2':Value} {bn:List UInt8} (h:k<hi/\v = .iface 136 (.pointer (some ⟨k,0,none⟩))/\w.heap[k]? = some (.cells #[.int .i64 fr,.int .i64 to,.bool r,ug bn,.int .i64 bat,v1,v2] 140 (0,0))) (h':nodeAt w 0 hi fr to [.bool r,ug bn,.int .i64 bat,v1',v2'] 136 140 v):v1=v1'/\v2=v2':=by
 obtain ⟨b,_,q,hv,hb⟩:=h'
 exact zzg h ⟨q,hv,hb⟩
theorem NL.under {w:World} {hi:Nat} {x:TN} {e':Tw.BEn} {L':List NB} (hL':NL w hi x.t x.v e' L'):∀ {t:Tw.T} {v:Value} {e:Tw.BEn} {L:List NB} {M:List TN},NL w hi t v e L->NDL w hi t v M->x∈M->∀p∈L'.map nf,p∈L.map nf
 | .name ..,_,_,_,_,hN,⟨_,rfl⟩,hx,p,hp=>by simp only [List.mem_singleton] at hx; subst hx; rw [NL.same hN hL']; exact hp
 | .int ..,_,_,_,_,hN,⟨_,rfl⟩,hx,p,hp=>by simp only [List.mem_singleton] at hx; subst hx; rw [NL.same hN hL']; exact hp
 | .truth ..,_,_,_,_,hN,⟨_,rfl⟩,hx,p,hp=>by simp only [List.mem_singleton] at hx; subst hx; rw [NL.same hN hL']; exact hp
 | .side ..,_,_,_,_,hN,⟨_,rfl⟩,hx,p,hp=>by simp only [List.mem_singleton] at hx; subst hx; rw [NL.same hN hL']; exact hp
 | .bracket ..,_,_,_,_,hN,⟨_,_,h',n1,rfl⟩,hx,p,hp=>by
  rcases zmC.1 hx with rfl | hx
  ·rw [NL.same hN hL']; exact hp
  ·obtain ⟨_,h,r1⟩:=hN
   cases nodeAt.inj h h'
   exact NL.under hL' r1 n1 hx p hp
 | .pair ..,_,_,_,_,hN,⟨_,_,_,_,h',n1,n2,rfl⟩,hx,p,hp=>by
  rcases zmC.1 hx with rfl | hx
  ·rw [NL.same hN hL']; exact hp
  ·obtain ⟨_,_,_,_,h,r1,r2,rfl⟩:=hN
   cases nodeAt.inj h h'
   rw [List.map_append,zmA]
   exact (zmA.1 hx).imp (fun hx=>NL.under hL' r1 n1 hx p hp) (fun hx=>NL.under hL' r2 n2 hx p hp)
 | .call ..,_,_,_,_,hN,⟨_,_,_,_,h',n1,n2,rfl⟩,hx,p,hp=>by
  rcases zmC.1 hx with rfl | hx
  ·rw [NL.same hN hL']; exact hp
  ·obtain ⟨_,_,_,_,h,r1,r2,rfl⟩:=hN
   cases nodeAt.inj h h'
   rw [List.map_append,zmA]
   exact (zmA.1 hx).imp (fun hx=>NL.under hL' r1 n1 hx p hp) (fun hx=>NL.under hL' r2 n2 hx p hp)
 | .binary ..,_,_,_,_,hN,⟨_,_,_,_,h',n1,n2,rfl⟩,hx,p,hp=>by
  rcases zmC.1 hx with rfl | hx
  ·rw [NL.same hN hL']; exact hp
  ·obtain ⟨_,_,_,_,h,r1,r2,rfl⟩:=hN
   cases nodeAt.inj h h'
   rw [List.map_append,zmA]
   exact (zmA.1 hx).imp (fun hx=>NL.under hL' r1 n1 hx p hp) (fun hx=>NL.under hL' r2 n2 hx p hp)
 | .cond ..,_,_,_,_,hN,⟨_,_,_,_,_,_,h',n1,n2,n3,rfl⟩,hx,p,hp=>by
  rcases zmC.1 hx with rfl | hx
  ·rw [NL.same hN hL']; exact hp
  ·obtain ⟨_,_,_,_,_,_,h,r1,r2,r3,rfl⟩:=hN
   cases nodeAt.inj h h'
   rw [List.map_append,List.map_append,zmA,zmA]
   rcases zmA.1 hx with hx | hx
   ·exact .inl (.inl (NL.under hL' r1 n1 hx p hp))
   ·exact (zmA.1 hx).elim (fun hx=>.inl (.inr (NL.under hL' r2 n2 hx p hp))) (fun hx=>.inr (NL.under hL' r3 n3 hx p hp))
 | .fn ..,_,_,_,_,hN,⟨_,_,h',n1,rfl⟩,hx,p,hp=>by
  rcases zmC.1 hx with rfl | hx
  ·rw [NL.same hN hL']; exact hp
  ·obtain ⟨_,_,h,r1⟩:=hN
   cases ydr h h'
   exact NL.under hL' r1 n1 hx p hp
 | .lett ..,_,_,_,_,hN,⟨_,_,_,_,h',n1,n2,rfl⟩,hx,p,hp=>by
  rcases zmC.1 hx with rfl | hx
  ·rw [NL.same hN hL']; exact hp
  ·obtain ⟨_,_,_,_,_,h,r1,r2,rfl⟩:=hN
   obtain ⟨e1,e2⟩:=zvz h h'
   subst e1
   subst e2
   rw [List.map_append,zmA]
   exact (zmA.1 hx).imp (fun hx=>NL.under hL' r1 n1 hx p hp) (fun hx=>NL.under hL' r2 n2 hx p hp)
theorem NL.frs {w:World} {hi:Nat}:∀ {t:Tw.T} {v:Value} {e:Tw.BEn} {L:List NB},NL w hi t v e L->(L.map (·.fr)).Sublist t.places
 | .name ..,_,_,_,⟨_,_,rfl⟩=>List.Sublist.refl _
 | .int ..,_,_,_,⟨_,rfl⟩=>List.nil_sublist _
 | .truth ..,_,_,_,⟨_,rfl⟩=>List.nil_sublist _
 | .side ..,_,_,_,⟨_,rfl⟩=>List.nil_sublist _
 | .bracket _ _ i,_,_,_,⟨_,_,r1⟩=>NL.frs (t:=i) r1
 | .pair ..,_,_,_,⟨_,_,_,_,_,r1,r2,rfl⟩=>by rw [List.map_append]; exact (NL.frs r1).append (NL.frs r2)
 | .call ..,_,_,_,⟨_,_,_,_,_,r1,r2,rfl⟩=>by rw [List.map_append]; exact (NL.frs r1).append (NL.frs r2)
 | .binary ..,_,_,_,⟨_,_,_,_,_,r1,r2,rfl⟩=>by rw [List.map_append]; exact (NL.frs r1).append (NL.frs r2)
 | .cond ..,_,_,_,⟨_,_,_,_,_,_,_,r1,r2,r3,rfl⟩=>by rw [List.map_append,List.map_append,List.append_assoc]; exact (NL.frs r1).append ((NL.frs r2).append (NL.frs r3))
 | .fn ..,_,_,_,⟨_,_,_,r1⟩=>(NL.frs r1).cons _
 | .lett ..,_,_,_,⟨_,_,_,_,_,_,r1,r2,rfl⟩=>by rw [List.map_append]; exact ((NL.frs r1).append (NL.frs r2)).cons _
theorem yfs {w:World} {hi:Nat} {t:Tw.T} {v:Value} {e:Tw.BEn} {L:List NB} (h:NL w hi t v e L) (hnd:t.places.Nodup) {a b f:Nat} (ha:(a,f)∈L.map nf) (hb:(b,f)∈L.map nf):a=b:=by
 obtain ⟨x,hx,ex⟩:=List.mem_map.1 ha
 obtain ⟨y,hy,ey⟩:=List.mem_map.1 hb
 simp only [nf,zpI] at ex ey
 have:=zji (f:=fun z:NB=>z.fr) (hnd.sublist (NL.frs h)) hx hy (by rw [ex.2,ey.2])
 rw [<-ex.1,<-ey.1,this]
theorem zky {α β : Type} (p : α -> Bool) (f : α -> β) (q : β -> Bool):∀ {L:List α} {g : α -> Bool},(∀x∈L,g x=(p x&&q (f x)))->L.any g=((L.filter p).map f).any q
 | [],_,_=>rfl
 | x::L,g,h=>by
  rw [List.any_cons,h x (by simp),zky p f q (fun y hy=>h y (by simp [hy])),List.filter_cons]
  cases p x <;> simp
theorem zv0 {w:World} {hi:Nat} {x:TN} {M:List TN} (h:NDL w hi x.t x.v M) (hb:x.bind.isSome=true):(⟨x.t,x.v⟩:TN)∈M:=by
 obtain ⟨t,v⟩:=x
 cases t with
 | fn=>obtain ⟨_,_,_,_,rfl⟩:=h; exact List.mem_cons_self
 | lett=>obtain ⟨_,_,_,_,_,_,_,rfl⟩:=h; exact List.mem_cons_self
 | _=>simp [TN.bind] at hb
theorem yds {w:World} {hi:Nat} {l:List UInt8} {t:Tw.T} {body:List Tw.Tok} (ho:Opened l t body) {tv:Value} {LN:List TN} (hN:NDL w hi t tv LN) {L0:List NB} (h0:NL w hi t tv .nil L0) {LX:TN->List NB} (hLX:∀x∈LN,NL w hi x.t x.v .nil (LX x)) {y:NB} (hy:nf y∈L0.map nf) (hyc:w.heap[y.nb]? = some (.cells #[.int .i64 y.fr,.int .i64 y.to,ug y.tx] 87 (0,0))) :
  LN.any (ownT LX y.nb y.fr)=Tw.Inl.ownF t y.fr:=by
 have hb:=hN.binds
 unfold Tw.Inl.ownF
 rw [<-hb]
 refine zky (fun x:TN=>x.bind.isSome) (·.t) _ (fun x hx => ?_)
 have hxr:=hN.rep.2 x hx
 have hxl:=hLX x hx
 have hund:=NL.under hxl h0 hN hx
 have hxh:∀ {M:List TN},NDL w hi x.t x.v M->x.bind.isSome=true->(⟨x.t,x.v⟩:TN)∈M:=zv0
 have hxm:x.bind.isSome=true->x.t∈t.binds:=fun h=>by rw [<-hb]; exact List.mem_map_of_mem (List.mem_filter.2 ⟨hx,h⟩)
 obtain ⟨M,hM⟩:=NDL.of_rep hxr
 obtain ⟨xt,xv⟩:=x
 cases xt with
 | lett fr to rc bn bat d b =>
  obtain ⟨v1,v2,⟨k,_,_,rfl,hk⟩,_⟩:=hxr
  cases rc with
  | false=>simp [ownT]
  | true =>
   have hbs:(⟨.lett fr to true bn bat d b,.iface 136 (.pointer (some ⟨k,0,none⟩))⟩:TN).bind=some ⟨k,3,none⟩:=rfl
   have hs:(⟨.lett fr to true bn bat d b,.iface 136 (.pointer (some ⟨k,0,none⟩))⟩:TN).bind.isSome=true:=rfl
   have hsub:=Tw.za2 (hxm hs)
   have hu:=zdg w hi _ hxl hM (fun s hs=>ho.sp s (hsub.2 s hs)) (ho.nd.sublist hsub.1) (hxh hM hs) hbs (fun z=>by simp [Tw.BEn.look])
   simp only [ownT,hs,Bool.true_and]
   congr 1
   rw [Bool.eq_iff_iff,List.any_eq_true,decide_eq_true_eq]
   constructor
   ·rintro ⟨z,hz,e⟩
    have e:z.nb=y.nb:=by simpa using e
    have hzc:=NL.block hxl z (List.mem_filter.1 hz).1
    rw [e,hyc] at hzc
    simp at hzc
    have hm:useF z∈(zbq ⟨k,3,none⟩ (LX _)).map useF:=List.mem_map_of_mem hz
    rw [hu] at hm
    obtain ⟨f,hf,e2⟩:=List.mem_map.1 hm
    simp only [useG,useF,zpI] at e2
    have:f=y.fr:=by omega
    rw [<-this]
    exact hf
   ·intro hf
    have hm:useG bn y.fr∈(Tw.T.lett fr to true bn bat d b).useS.map (useG bn):=List.mem_map_of_mem hf
    have hu':=hu
    simp only [Tw.T.bname] at hu'
    rw [<-hu'] at hm
    obtain ⟨z,hz,e2⟩:=List.mem_map.1 hm
    simp only [useG,useF,zpI] at e2
    refine ⟨z,hz,?_⟩
    have hzu:=hund (nf z) (List.mem_map_of_mem (List.mem_filter.1 hz).1)
    have:z.nb=y.nb:=yfs (f:=y.fr) h0 ho.nd (by rw [<-e2.1]; exact hzu) hy
    simpa using this
 | fn=>simp [ownT]
 | _=>simp [ownT,TN.bind]
open Go.RowKit
theorem zrb {l:List UInt8} {t:Tw.T} {body:List Tw.Tok} (ho:Opened l t body) {w:World} {hi:Nat} {tv:Value} {LN:List TN} (hN:NDL w hi t tv LN):∀z∈LN,z.t.near:=fun z hz=>by
 have hb:=hN.binds
 cases hzb:z.bind with
 | none =>
  have hzr:=hN.rep.2 z hz
  obtain ⟨zt,zv⟩:=z
  cases zt with
  | fn=>obtain ⟨_,⟨b,_,_,rfl,_⟩,_⟩:=hzr; simp [TN.bind] at hzb
  | lett=>obtain ⟨_,_,⟨b,_,_,rfl,_⟩,_⟩:=hzr; simp [TN.bind] at hzb
  | _=>exact trivial
 | some B =>
  have hzm:z.t∈t.binds:=by rw [<-hb]; exact List.mem_map_of_mem (List.mem_filter.2 ⟨hz,by rw [hzb]; rfl⟩)
  have:=(ho.bind hzm).2
  obtain ⟨zt,zv⟩:=z
  cases zt with
  | fn=>simp only [Tw.T.bpl,Tw.T.bname,Tw.T.near] at this ⊢; omega
  | lett=>simp only [Tw.T.bpl,Tw.T.bname,Tw.T.near] at this ⊢; omega
  | _=>exact trivial
theorem zzh {w:World} {hi:Nat} {tv:Value} {l:List UInt8} {t:Tw.T} {body:List Tw.Tok} (hrep:Rep w 0 hi t tv) (ho:Opened l t body) {f0 t0 k0:Nat} {r:Bool} {x:List UInt8} {d b:Tw.T} (hn : .lett f0 t0 r x k0 d b∈t.binds) {a:Int} (h1:(k0:Int)<=a) (h2:a<(k0:Int)+x.length) :
  ∃LN k dv bv,NDL w hi t tv LN/\(∀z∈LN,z.t.near)/\hitL a LN=some ⟨.lett f0 t0 r x k0 d b,.iface 136 (.pointer (some ⟨k,0,none⟩))⟩/\w.heap[k]? = some (.cells #[.int .i64 f0,.int .i64 t0,.bool r,ug x,.int .i64 k0,dv,bv] 140 (0,0))/\Rep w 0 hi d dv/\Rep w 0 hi b bv /\
   Rep w 0 hi (.lett f0 t0 r x k0 d b) (.iface 136 (.pointer (some ⟨k,0,none⟩))) /\
   (∀W,w.grownBy W none->Calls Tryz.prog 61 #[tv,dv] W fun e w'=>e = .returned (.bool (Tw.Inl.isV (Tw.Inl.ownF t) d))/\W.grownBy w' none) /\
   ∃cb:Bool,(cb=true↔Tw.Inl.captD x d b [])/\∀W,w.grownBy W none->Calls Tryz.prog 62 #[.pointer (some ⟨k,0,none⟩)] W fun e w'=>e = .returned (.bool cb)/\W.grownBy w' none:=by
 obtain ⟨LN,hN⟩:=NDL.of_rep hrep
 have hb:=hN.binds
 rw [<-hb] at hn
 obtain ⟨y,hy,ey⟩:=List.mem_map.1 hn
 obtain ⟨yt,yv⟩:=y
 simp only at ey
 subst ey
 have hit:=zpu ho hN hy h1 h2
 have hyL:=(List.mem_filter.1 hy).1
 have hyr:=hN.rep.2 _ hyL
 have hyr':=hyr
 obtain ⟨dv,bv,⟨k,k1,k2,rfl,hk⟩,rd,rb⟩:=hyr
 obtain ⟨L0,h0⟩:=NL.of_rep .nil hrep
 have:∀z:TN,∃L,z∈LN->NL w hi z.t z.v .nil L:=fun z=>by
  by_cases hz:z∈LN
  ·obtain ⟨L,hL⟩:=NL.of_rep .nil (hN.rep.2 z hz)
   exact ⟨L,fun _=>hL⟩
  ·exact ⟨[],fun h=>absurd h hz⟩
 obtain ⟨LX,hLX⟩:=Classical.axiomOfChoice this
 obtain ⟨Ld,hLd⟩:=NL.of_rep .nil rd
 obtain ⟨Lb,hLb⟩:=NL.of_rep .nil rb
 refine ⟨LN,k,dv,bv,hN,zrb ho hN,hit,hk,rd,rb,hyr',fun W hW=>zh4 (own:=Tw.Inl.ownF t) hN hLX hLd (fun y hyd => ?_) W hW,(za5 Lb).any (capD x Ld),NL.captD x hLd hLb,fun W hW => ?_⟩
 ·refine yds ho hN h0 hLX ?_ (NL.block hLd y hyd)
  obtain ⟨Ln,hLn⟩:=NL.of_rep .nil hyr'
  refine NL.under hLn h0 hN hyL _ ?_
  obtain ⟨_,_,_,_,_,hh,r1,r2,rfl⟩:=hLn
  obtain ⟨e1,_⟩:=zvz hh ⟨k,k1,k2,rfl,hk⟩
  subst e1
  rw [List.map_append,zmA]
  refine .inl ?_
  rw [NL.same r1 hLd]
  exact List.mem_map_of_mem hyd
 ·have hkW:=Kp.of_grown hW
  exact zjj (zbG hW hk) (hLd.kp hkW) (hLb.kp hkW)
theorem zv1 {N dx:Nat} {blk:Nat->List UInt8}:∀ {S:List Nat} {d:Nat},S.Pairwise (fun f g=>f+dx<=g)->(∀f∈S,d<=f/\f+dx<=N)->d<=N->ChOk N d (Tw.Inl.chB dx blk S)
 | [],d,_,_,h=>h
 | f::S,d,hp,hb,_=>by
  have hp':=List.pairwise_cons.1 hp
  obtain ⟨h1,h2⟩:=hb f (by simp)
  exact ⟨h1,Nat.le_add_right _ _,by omega,zv1 (d:=f+dx) hp'.2 (fun g hg=>⟨hp'.1 g hg,(hb g (by simp [hg])).2⟩) h2⟩
theorem zv2 (hB:Said.Builder) {w:World} {hi:Nat} {tv:Value} {s:ByteArray} {t:Tw.T} {body:List Tw.Tok} (hrep:Rep w 0 hi t tv) (ho:Opened s.data.toList t body) (hG:Tw.G s.data.toList .expr body t) {f0 t0 k0:Nat} {x:List UInt8} {d b:Tw.T} (hn : .lett f0 t0 false x k0 d b∈t.binds) {a:Int} (h1:(k0:Int)<=a) (h2:a<(k0:Int)+x.length) (hv:Tw.Inl.isV (Tw.Inl.ownF t) d=true) (hc:¬Tw.Inl.captD x d b []) :
  Calls Tryz.prog 38 #[.string s,tv,.int .i64 a] w fun e w'=>e = .returned (.tuple #[.string ⟨(Tw.Inl.zli s.data.toList (.lett f0 t0 false x k0 d b)).toArray⟩,.int .i64 0])/\w.grownBy w' none:=by
 obtain ⟨LN,k,dv,bv,hN,hnear,hit,hk,rd,rb,hyr,HV,cb,hcb,HC⟩:=zzh hrep ho hn h1 h2
 have hcf:cb=false:=by cases cb with | false=>rfl | true=>exact absurd (hcb.1 rfl) hc
 subst hcf
 obtain ⟨LU,hLU⟩:=NL.of_rep .nil hyr
 obtain ⟨M,hM⟩:=NDL.of_rep hyr
 have hsub:=Tw.za2 hn
 have hnd:=ho.nd.sublist hsub.1
 have hsp:SpOk (.lett f0 t0 false x k0 d b):=fun s hs=>ho.sp s (hsub.2 s hs)
 have hu:=zdg w hi _ hLU hM hsp hnd (zv0 (x:=⟨_,_⟩) hM rfl) (A:=⟨k,3,none⟩) rfl (fun z=>by simp [Tw.BEn.look])
 have hR:=Tw.zkt ho.text ho.lex (Tw.zbj t ho.nd _ hn)
 have hsz:s.data.toList.length=s.size:=Array.length_toList
 have hl:=ho.len
 rw [hsz] at hl
 have hSp:(Tw.T.lett f0 t0 false x k0 d b).useS.Pairwise (fun f g=>f+x.length<=g):=by
  refine List.Pairwise.imp_of_mem (fun {f g} hf hg hfg => ?_) (List.pairwise_cons.1 hR.1).2
  obtain ⟨a,ha,rfl,_,a2⟩:=hR.2 f (List.mem_cons_of_mem _ hf)
  obtain ⟨b,hb,rfl,_,b2⟩:=hR.2 g (List.mem_cons_of_mem _ hg)
  simp only [Tw.T.bname] at a2 b2
  have:=((ho.lex.toks).1 a ha).lt
  have:=((ho.lex.toks).1 b hb).lt
  rcases Tw.zf4 ho.lex ha hb with h | h | h
  ·omega
  ·omega
  ·subst h; omega
 have hdf:=Tw.Inl.zzd (N:=s.size) hG (Tw.Inl.zlg ho.lex) (fun a ha=>⟨((ho.lex.toks).1 a ha).lt,by have:=((ho.lex.toks).1 a ha).high; omega⟩) _ hn _ _ _ _ _ _ _ rfl
 obtain ⟨_,d1,d2,d3,d4,d5⟩:=hdf
 have huse:(Tw.T.lett f0 t0 false x k0 d b).useS=b.occ x []:=by simp [Tw.T.useS]
 have hch:zfv f0 b.fr s.data.toList d (zbq ⟨k,3,none⟩ LU)=(f0,b.fr,[])::Tw.Inl.chB x.length (Tw.Inl.zch s.data.toList d) (Tw.T.lett f0 t0 false x k0 d b).useS:=by
  have e:(zbq ⟨k,3,none⟩ LU).map (fun y=>(y.fr,y.to,Tw.Inl.zch s.data.toList d y.fr))=((zbq ⟨k,3,none⟩ LU).map useF).map fun q=>(q.1,q.2,Tw.Inl.zch s.data.toList d q.1):=by rw [List.map_map]; rfl
  simp only [zfv]
  rw [e,hu,List.map_map]
  rfl
 have hfits:∀f∈(Tw.T.lett f0 t0 false x k0 d b).useS,b.fr<=f/\f+x.length<=s.size:=fun f hf=>by
  obtain ⟨a,ha,rfl,_,a2⟩:=hR.2 f (List.mem_cons_of_mem _ hf)
  simp only [Tw.T.bname] at a2
  have:=((ho.lex.toks).1 a ha).high
  rw [huse] at hf
  exact ⟨d5 _ (Tw.zat x b [] _ hf),by omega⟩
 have key:=zvy hB hN hnear hit hk rd rb hLU (Nat.le_trans hLU.len (Nat.le_trans hsub.1.length_le ho.small)) (by
  intro y hy
  have hm:useF y∈(zbq ⟨k,3,none⟩ LU).map useF:=List.mem_map_of_mem hy
  rw [hu] at hm
  obtain ⟨f,hf,e2⟩:=List.mem_map.1 hm
  simp only [useG,useF,zpI] at e2
  have:=hfits f hf
  omega) hl (by omega) (by omega) (by
  rw [hch]
  exact ⟨Nat.zero_le _,by omega,by omega,zv1 hSp hfits (by omega)⟩) (fun W hW=>by have:=HV W hW; rw [hv] at this; exact this) HC
 rw [hch] at key
 exact key
open Go.RowKit Go.Shelf
theorem zyh {w:World} {hi:Nat} {t:Tw.T} {tv:Value} {LN:List TN} {s:ByteArray} {a:Int} {fr to bat b:Nat} {bn:List UInt8} {bo:Tw.T} (hn:NDL w hi t tv LN) (hnear:∀x∈LN,x.t.near) (hit:hitL a LN=some ⟨.fn fr to bn bat bo,.iface 215 (.pointer (some ⟨b,0,none⟩))⟩) :
  Calls Tryz.prog 38 #[.string s,tv,.int .i64 a] w fun e w'=>e = .returned (.tuple #[.string ⟨#[]⟩,.int .i64 6])/\w.grownBy w' none:=by
 obtain ⟨T0,n0,rfl⟩:=hn.iface
 refine (callsIn_wide (n:=3)).1 ?_
 refine callsIn_of_wp_marks Tryz.func38 rfl trivial ?_
 simp only [Tryz.ntmps38,List.size_toArray,List.length_cons,List.length_nil,Nat.reduceAdd,Nat.reduceSub,Array.replicate_succ,Array.replicate_zero,List.push_toArray,List.append_toArray,List.nil_append,List.cons_append]
 have G0:w.grownBy (w.alloc (.cells #[.string s] 9)) none:=zwA _ _ none
 have q6:=zei (some ⟨b,0,none⟩)
 gi_wp2_with fail
 refine ⟨trivial,?_⟩
 refine (callsIn_wide.2 (zek (hn.kp (Kp.of_grown G0)) hnear a)).mono ?_
 rintro e1 w1 ⟨rfl,hg1⟩
 rw [hit]
 have G1:=bV (zaa G0 hg1)
 have G2:=bV (zae G1.out (.cells #[.pointer none] 136))
 simp only [zny]
 gi_wp2_with fail
 exact ⟨.tuple #[.string ⟨#[]⟩,.int .i64 6],by simp [results,Tryz.results38,go_sem],rfl,G2.out⟩
theorem zyi {w:World} {hi:Nat} {t:Tw.T} {tv:Value} {LN:List TN} {s:ByteArray} {a:Int} {fr to bat b:Nat} {bn:List UInt8} {d bo:Tw.T} {TD nd:Nat} {bv:Value} (hn:NDL w hi t tv LN) (hnear:∀x∈LN,x.t.near) (hit:hitL a LN=some ⟨.lett fr to true bn bat d bo,.iface 136 (.pointer (some ⟨b,0,none⟩))⟩)
  (hb:w.heap[b]? = some (.cells #[.int .i64 fr,.int .i64 to,.bool true,ug bn,.int .i64 bat,.iface TD (.pointer (some ⟨nd,0,none⟩)),bv] 140 (0,0))) :
  Calls Tryz.prog 38 #[.string s,tv,.int .i64 a] w fun e w'=>e = .returned (.tuple #[.string ⟨#[]⟩,.int .i64 6])/\w.grownBy w' none:=by
 obtain ⟨T0,n0,rfl⟩:=hn.iface
 refine (callsIn_wide (n:=3)).1 ?_
 refine callsIn_of_wp_marks Tryz.func38 rfl trivial ?_
 simp only [Tryz.ntmps38,List.size_toArray,List.length_cons,List.length_nil,Nat.reduceAdd,Nat.reduceSub,Array.replicate_succ,Array.replicate_zero,List.push_toArray,List.append_toArray,List.nil_append,List.cons_append]
 have G0:w.grownBy (w.alloc (.cells #[.string s] 9)) none:=zwA _ _ none
 have q6:=zcv (some ⟨b,0,none⟩)
 gi_wp2_with fail
 refine ⟨trivial,?_⟩
 refine (callsIn_wide.2 (zek (hn.kp (Kp.of_grown G0)) hnear a)).mono ?_
 rintro e1 w1 ⟨rfl,hg1⟩
 rw [hit]
 have G1:=bV (zaa G0 hg1)
 obtain ⟨W2,hW2⟩:∃W2,w1.alloc (.cells #[.pointer (some ⟨b,0,none⟩)] 136)=W2:=⟨_,rfl⟩
 have G2:=bV (show w.grownBy W2 none from by rw [<-hW2]; exact zae G1.out _)
 have l2:W2.heap[w1.heap.size]? = some (.cells #[.pointer (some ⟨b,0,none⟩)] 136 (0,0)):=by rw [<-hW2]; exact zad w1 _
 have hb2:=zbG G2.out hb
 have cl2:=(zag l2).1
 have cb2:W2.cell? ⟨b,2,none⟩=some (.bool true):=zcR hb2
 have cb5:W2.cell? ⟨b,5,none⟩=some (.iface TD (.pointer (some ⟨nd,0,none⟩))):=zcR hb2
 simp only [zny]
 clear hb hit hg1 hb2 l2 cb5
 gi_wp2_with fail
 exact ⟨.tuple #[.string ⟨#[]⟩,.int .i64 6],by simp [results,Tryz.results38,go_sem],rfl,G2.out⟩
theorem zty {w:World} {hi:Nat} {t:Tw.T} {tv:Value} {LN:List TN} {s:ByteArray} {a:Int} {fr to bat b:Nat} {bn:List UInt8} {d bo:Tw.T} {TD nd:Nat} {bv:Value} (hn:NDL w hi t tv LN) (hnear:∀x∈LN,x.t.near) (hit:hitL a LN=some ⟨.lett fr to false bn bat d bo,.iface 136 (.pointer (some ⟨b,0,none⟩))⟩)
  (hb:w.heap[b]? = some (.cells #[.int .i64 fr,.int .i64 to,.bool false,ug bn,.int .i64 bat,.iface TD (.pointer (some ⟨nd,0,none⟩)),bv] 140 (0,0)))
  (hv:∀W,w.grownBy W none->Calls Tryz.prog 61 #[tv,.iface TD (.pointer (some ⟨nd,0,none⟩))] W fun r w'=>r = .returned (.bool false)/\W.grownBy w' none) :
  Calls Tryz.prog 38 #[.string s,tv,.int .i64 a] w fun e w'=>e = .returned (.tuple #[.string ⟨#[]⟩,.int .i64 9])/\w.grownBy w' none:=by
 obtain ⟨T0,n0,rfl⟩:=hn.iface
 refine (callsIn_wide (n:=3)).1 ?_
 refine callsIn_of_wp_marks Tryz.func38 rfl trivial ?_
 simp only [Tryz.ntmps38,List.size_toArray,List.length_cons,List.length_nil,Nat.reduceAdd,Nat.reduceSub,Array.replicate_succ,Array.replicate_zero,List.push_toArray,List.append_toArray,List.nil_append,List.cons_append]
 have G0:w.grownBy (w.alloc (.cells #[.string s] 9)) none:=zwA _ _ none
 have q6:=zcv (some ⟨b,0,none⟩)
 gi_wp2_with fail
 refine ⟨trivial,?_⟩
 refine (callsIn_wide.2 (zek (hn.kp (Kp.of_grown G0)) hnear a)).mono ?_
 rintro e1 w1 ⟨rfl,hg1⟩
 rw [hit]
 have G1:=bV (zaa G0 hg1)
 obtain ⟨W2,hW2⟩:∃W2,w1.alloc (.cells #[.pointer (some ⟨b,0,none⟩)] 136)=W2:=⟨_,rfl⟩
 have G2:=bV (show w.grownBy W2 none from by rw [<-hW2]; exact zae G1.out _)
 have l2:W2.heap[w1.heap.size]? = some (.cells #[.pointer (some ⟨b,0,none⟩)] 136 (0,0)):=by rw [<-hW2]; exact zad w1 _
 have hb2:=zbG G2.out hb
 have cl2:=(zag l2).1
 have cb2:W2.cell? ⟨b,2,none⟩=some (.bool false):=zcR hb2
 have cb5:W2.cell? ⟨b,5,none⟩=some (.iface TD (.pointer (some ⟨nd,0,none⟩))):=zcR hb2
 have HV:=bV hv
 simp only [zny]
 have L2:=bV l2
 clear hb hit hg1 hb2 l2 hv
 gi_wp2_with fail
 refine ⟨trivial,?_⟩
 refine (callsIn_wide.2 (uh HV _ G2.out)).mono ?_
 rintro e1 w3 ⟨rfl,hg3⟩
 have G3:=bV (zaa G2.out hg3)
 clear hg3 cl2 cb2 cb5 L2
 gi_wp2_with fail
 exact ⟨.tuple #[.string ⟨#[]⟩,.int .i64 9],by simp [results,Tryz.results38,go_sem],rfl,G3.out⟩
theorem zv3 {w:World} {hi:Nat} {t:Tw.T} {tv:Value} {LN:List TN} {s:ByteArray} {a:Int} {fr to bat b:Nat} {bn:List UInt8} {d bo:Tw.T} {TD nd:Nat} {bv:Value} (hn:NDL w hi t tv LN) (hnear:∀x∈LN,x.t.near) (hit:hitL a LN=some ⟨.lett fr to false bn bat d bo,.iface 136 (.pointer (some ⟨b,0,none⟩))⟩)
  (hb:w.heap[b]? = some (.cells #[.int .i64 fr,.int .i64 to,.bool false,ug bn,.int .i64 bat,.iface TD (.pointer (some ⟨nd,0,none⟩)),bv] 140 (0,0)))
  (hv:∀W,w.grownBy W none->Calls Tryz.prog 61 #[tv,.iface TD (.pointer (some ⟨nd,0,none⟩))] W fun r w'=>r = .returned (.bool true)/\W.grownBy w' none)
  (hc:∀W,w.grownBy W none->Calls Tryz.prog 62 #[.pointer (some ⟨b,0,none⟩)] W fun r w'=>r = .returned (.bool true)/\W.grownBy w' none) :
  Calls Tryz.prog 38 #[.string s,tv,.int .i64 a] w fun e w'=>e = .returned (.tuple #[.string ⟨#[]⟩,.int .i64 8])/\w.grownBy w' none:=by
 obtain ⟨T0,n0,rfl⟩:=hn.iface
 refine (callsIn_wide (n:=3)).1 ?_
 refine callsIn_of_wp_marks Tryz.func38 rfl trivial ?_
 simp only [Tryz.ntmps38,List.size_toArray,List.length_cons,List.length_nil,Nat.reduceAdd,Nat.reduceSub,Array.replicate_succ,Array.replicate_zero,List.push_toArray,List.append_toArray,List.nil_append,List.cons_append]
 have G0:w.grownBy (w.alloc (.cells #[.string s] 9)) none:=zwA _ _ none
 have q6:=zcv (some ⟨b,0,none⟩)
 gi_wp2_with fail
 refine ⟨trivial,?_⟩
 refine (callsIn_wide.2 (zek (hn.kp (Kp.of_grown G0)) hnear a)).mono ?_
 rintro e1 w1 ⟨rfl,hg1⟩
 rw [hit]
 have G1:=bV (zaa G0 hg1)
 obtain ⟨W2,hW2⟩:∃W2,w1.alloc (.cells #[.pointer (some ⟨b,0,none⟩)] 136)=W2:=⟨_,rfl⟩
 have G2:=bV (show w.grownBy W2 none from by rw [<-hW2]; exact zae G1.out _)
 have l2:W2.heap[w1.heap.size]? = some (.cells #[.pointer (some ⟨b,0,none⟩)] 136 (0,0)):=by rw [<-hW2]; exact zad w1 _
 have hb2:=zbG G2.out hb
 have cl2:=(zag l2).1
 have cb2:W2.cell? ⟨b,2,none⟩=some (.bool false):=zcR hb2
 have cb5:W2.cell? ⟨b,5,none⟩=some (.iface TD (.pointer (some ⟨nd,0,none⟩))):=zcR hb2
 have HV:=bV hv
 have HC:=bV hc
 simp only [zny]
 have L2:=bV l2
 clear hb hit hg1 hb2 l2 hv hc
 gi_wp2_with fail
 refine ⟨trivial,?_⟩
 refine (callsIn_wide.2 (uh HV _ G2.out)).mono ?_
 rintro e1 w3 ⟨rfl,hg3⟩
 have G3:=bV (zaa G2.out hg3)
 have cl3:=(zag (zbG hg3 L2.out)).1
 clear hg3 cl2 cb2 cb5 L2
 gi_wp2_with fail
 refine ⟨trivial,?_⟩
 refine (callsIn_wide.2 (uh HC _ G3.out)).mono ?_
 rintro e1 w4 ⟨rfl,hg4⟩
 have G4:=bV (zaa G3.out hg4)
 clear hg4 cl3
 gi_wp2_with fail
 exact ⟨.tuple #[.string ⟨#[]⟩,.int .i64 8],by simp [results,Tryz.results38,go_sem],rfl,G4.out⟩
open Go.RowKit
theorem zhq (w:World) (bt:Nat) (l':ByteArray) {k:Int} (hk:k≠0) :
  Calls Tryz.prog 37 #[.pointer (some ⟨bt,0,none⟩),.string l',.int .i64 k] w fun e w'=>e = .returned (.int .i64 k)/\w.grownBy w' none:=by
 have hkb:(k != 0)=true:=by simpa using hk
 go_enter Tryz.func37,Tryz.ntmps37
 go_wp2_with fail
 go_ret
 exact ⟨rfl,zab _⟩
theorem znt (hIB:Said.IndexByte) (hPI:Said.ParseInt) (hIt:Said.ItoaSmall) (w:World) (bt:Nat) {l':ByteArray} {fo k p:Nat} (ho:Tw.zcd 6100 fo l'.data.toList=some (.fault k p)) (hk:k≠0) :
  Calls Tryz.prog 37 #[.pointer (some ⟨bt,0,none⟩),.string l',.int .i64 0] w fun e w'=>e = .returned (.int .i64 k)/\w.grownBy w' none:=by
 have hki:¬(k:Int)=0:=by omega
 have hkb:((k:Int)==0)=false:=by simp; omega
 have HO:=bV ho
 clear ho
 go_enter Tryz.func37,Tryz.ntmps37
 go_wp2_with fail
 refine (zqh hIB hPI hIt (uh HO) w).mono ?_
 rintro e1 w1 ⟨rfl,hg⟩
 have G1:=bV hg.grown
 clear hg
 go_wp2_with fail
 go_ret
 exact ⟨rfl,uh G1⟩
theorem zhr {w:World} {bt:Nat} {s l':ByteArray} {t:Tw.T} (hT:TextAt w bt s t) {a k kk:Int} {Q:World->Prop}
    (hI:∀(W:World) (hi:Nat) (tv:Value),Rep W 0 hi t tv->Calls Tryz.prog 38 #[.string s,tv,.int .i64 a] W fun e w'=>e = .returned (.tuple #[.string l',.int .i64 k])/\W.grownBy w' none)
    (hbe:∀W,w.grownBy W none->Calls Tryz.prog 37 #[.pointer (some ⟨bt,0,none⟩),.string l',.int .i64 k] W fun e w'=>e = .returned (.int .i64 kk)/\Q w') :
    Calls Tryz.prog 26 #[.pointer (some ⟨bt,0,none⟩),.int .i64 a] w fun e w'=>e = .returned (.int .i64 kk)/\Q w':=by
  obtain ⟨hi,tv,hb,hr⟩:=hT
  have c0:w.cell? ⟨bt,0,none⟩=some (.string s):=zcR hb
  have c1:w.cell? ⟨bt,1,none⟩=some tv:=zcR hb
  have HRN:Hid (∀W:World,w.grownBy W none->Calls Tryz.prog 38 #[.string s,tv,.int .i64 a] W fun e w'=>e = .returned (.tuple #[.string l',.int .i64 k])/\W.grownBy w' none):=bV fun W hW=>hI W hi tv (hr.kp (Kp.of_grown hW))
  have HBE:=bV hbe
  obtain ⟨PT,nt,rfl⟩:=hr.iface
  have D1:Hid (w.grownBy w.drew none):=zac (zab _)
  clear hr hI hbe
  go_enter Tryz.func26,Tryz.ntmps26
  go_wp2_with fail
  go_region_with (first
      | (go_at_call 38; refine (uh HRN _ (by first | exact zab _ | exact D1.out)).mono ?_; clear HRN; rintro e1 w2 ⟨rfl,hg⟩
         have G2:Hid (w.grownBy w2 none):=bV (zaa (by first | exact zab _ | exact D1.out) hg)
         clear hg)
      | (go_at_call 37; refine (uh HBE _ G2.out).mono ?_; rintro e1 w3 ⟨rfl,hx⟩
         have X3:=bV hx
         clear hx))
  all_goals (go_wp2_with fail; go_ret; exact ⟨rfl,X3.out⟩)
theorem zfr {w:World} {bt:Nat} {s l' name:ByteArray} {t:Tw.T} (hT:TextAt w bt s t) {a k kk:Int} {Q:World->Prop}
    (hI:∀(W:World) (hi:Nat) (tv:Value),Rep W 0 hi t tv->Calls Tryz.prog 39 #[.string s,tv,.int .i64 a,.string name] W fun e w'=>e = .returned (.tuple #[.string l',.int .i64 k])/\W.grownBy w' none)
    (hbe:∀W,w.grownBy W none->Calls Tryz.prog 37 #[.pointer (some ⟨bt,0,none⟩),.string l',.int .i64 k] W fun e w'=>e = .returned (.int .i64 kk)/\Q w') :
    Calls Tryz.prog 27 #[.pointer (some ⟨bt,0,none⟩),.int .i64 a,.string name] w fun e w'=>e = .returned (.int .i64 kk)/\Q w':=by
  obtain ⟨hi,tv,hb,hr⟩:=hT
  have c0:w.cell? ⟨bt,0,none⟩=some (.string s):=zcR hb
  have c1:w.cell? ⟨bt,1,none⟩=some tv:=zcR hb
  have HRN:Hid (∀W:World,w.grownBy W none->Calls Tryz.prog 39 #[.string s,tv,.int .i64 a,.string name] W fun e w'=>e = .returned (.tuple #[.string l',.int .i64 k])/\W.grownBy w' none):=bV fun W hW=>hI W hi tv (hr.kp (Kp.of_grown hW))
  have HBE:=bV hbe
  obtain ⟨PT,nt,rfl⟩:=hr.iface
  have D1:Hid (w.grownBy w.drew none):=zac (zab _)
  clear hr hI hbe
  go_enter Tryz.func27,Tryz.ntmps27
  go_wp2_with fail
  go_region_with (first
      | (go_at_call 39; refine (uh HRN _ (by first | exact zab _ | exact D1.out)).mono ?_; clear HRN; rintro e1 w2 ⟨rfl,hg⟩
         have G2:Hid (w.grownBy w2 none):=bV (zaa (by first | exact zab _ | exact D1.out) hg)
         clear hg)
      | (go_at_call 37; refine (uh HBE _ G2.out).mono ?_; rintro e1 w3 ⟨rfl,hx⟩
         have X3:=bV hx
         clear hx))
  all_goals (go_wp2_with fail; go_ret; exact ⟨rfl,X3.out⟩)
open Go.RowKit
theorem zyj (hB:Said.Builder) {s name:ByteArray} {t:Tw.T} {body:List Tw.Tok} (ho:Opened s.data.toList t body) {n:Tw.T} (hn:n∈t.binds) {a:Int} (h1:(n.bpl:Int)<=a) (h2:a<(n.bpl:Int)+n.bname.length) (hnm:name.size<=300) (hY:Tw.isNm name.data.toList=true->Tw.Nm name.data.toList) :
  ∃(l':ByteArray) (k:Int),(∀(w:World) (hi:Nat) (tv:Value),Rep w 0 hi t tv->Calls Tryz.prog 39 #[.string s,tv,.int .i64 a,.string name] w fun e w'=>e = .returned (.tuple #[.string l',.int .i64 k])/\w.grownBy w' none) /\
   ((k=0/\Tw.Nm name.data.toList/\¬(name.data.toList≠n.bname/\n.captN name.data.toList)/\l'.data.toList=Tw.chgR 0 s.data.toList (Tw.chs n.bname.length name.data.toList (n.bpl::n.useS)))\/k=7\/k=8):=by
 have set:∀(w:World) (hi:Nat) (tv:Value),Rep w 0 hi t tv->∃LN x A,NDL w hi t tv LN/\(∀x∈LN,x.t.near)/\hitL a LN=some x/\x.bind=some A/\x.t=n:=fun w hi tv hrep=>by
  obtain ⟨LN,hN⟩:=NDL.of_rep hrep
  have hb:=hN.binds
  have hn':=hn
  rw [<-hb] at hn'
  obtain ⟨x,hx,rfl⟩:=List.mem_map.1 hn'
  obtain ⟨A,hA⟩:=Option.isSome_iff_exists.1 (List.mem_filter.1 hx).2
  exact ⟨LN,x,A,hN,zrb ho hN,zpu ho hN hx h1 h2,hA,rfl⟩
 cases hg:Tw.isNm name.data.toList with
 | false =>
  refine ⟨⟨#[]⟩,7,fun w hi tv hrep => ?_,.inr (.inl rfl)⟩
  obtain ⟨LN,x,A,hN,hnear,hit,_,_⟩:=set w hi tv hrep
  exact zx3 hN hnear hit hnm hg
 | true =>
  by_cases hc:name.data.toList≠n.bname/\n.captN name.data.toList
  ·refine ⟨⟨#[]⟩,8,fun w hi tv hrep => ?_,.inr (.inr rfl)⟩
   obtain ⟨LN,x,A,hN,hnear,hit,hA,rfl⟩:=set w hi tv hrep
   exact zve hN hnear hit hA hnm hg hc
  ·exact ⟨⟨(Tw.chgR 0 s.data.toList (Tw.chs n.bname.length name.data.toList (n.bpl::n.useS))).toArray⟩,0,fun w hi tv hrep=>zvl hB hrep ho hn h1 h2 (hY hg) hc,.inl ⟨rfl,hY hg,hc,rfl⟩⟩
def Tw.yea:Tw.T->Bool
 | .fn .. => true
 | .lett .. => true
 | _=>false
theorem Tw.zb8 {n:Tw.T}:∀ {t:Tw.T},n∈t.binds->Tw.yea n=true
 | .name ..,h | .int ..,h | .truth ..,h | .side ..,h=>by cases h
 | .bracket _ _ i,h=>zb8 (t:=i) h
 | .pair ..,h=>(zmA.1 h).elim zb8 zb8
 | .call ..,h=>(zmA.1 h).elim zb8 zb8
 | .binary ..,h=>(zmA.1 h).elim zb8 zb8
 | .cond ..,h=>(zmA.1 h).elim zb8 fun h=>(zmA.1 h).elim zb8 zb8
 | .fn ..,h=>(zmC.1 h).elim (fun e=>by rw [e]; rfl) zb8
 | .lett ..,h=>(zmC.1 h).elim (fun e=>by rw [e]; rfl) fun h=>(zmA.1 h).elim zb8 zb8
theorem zyk (hB:Said.Builder) {s:ByteArray} {t:Tw.T} {body:List Tw.Tok} (ho:Opened s.data.toList t body) (hG:Tw.G s.data.toList .expr body t) {n:Tw.T} (hn:n∈t.binds) {a:Int} (h1:(n.bpl:Int)<=a) (h2:a<(n.bpl:Int)+n.bname.length) :
  ∃(l':ByteArray) (k:Int),(∀(w:World) (hi:Nat) (tv:Value),Rep w 0 hi t tv->Calls Tryz.prog 38 #[.string s,tv,.int .i64 a] w fun e w'=>e = .returned (.tuple #[.string l',.int .i64 k])/\w.grownBy w' none) /\
   ((k=0/\(∃f0 t0 k0 x d b,n = .lett f0 t0 false x k0 d b/\Tw.Inl.isV (Tw.Inl.ownF t) d=true/\¬Tw.Inl.captD x d b [])/\l'.data.toList=Tw.Inl.zli s.data.toList n)\/k=6\/k=8\/k=9):=by
 cases n with
 | fn fr to bn bat bo =>
  refine ⟨⟨#[]⟩,6,fun w hi tv hrep => ?_,.inr (.inl rfl)⟩
  obtain ⟨LN,hN⟩:=NDL.of_rep hrep
  have hb:=hN.binds
  have hn':=hn
  rw [<-hb] at hn'
  obtain ⟨⟨xt,xv⟩,hx,ex⟩:=List.mem_map.1 hn'
  simp only at ex
  subst ex
  obtain ⟨_,⟨b,_,_,rfl,_⟩,_⟩:=hN.rep.2 _ (List.mem_filter.1 hx).1
  exact zyh hN (zrb ho hN) (zpu ho hN hx h1 h2)
 | lett f0 t0 r x k0 d b =>
  have part:∀(w:World) (hi:Nat) (tv:Value),Rep w 0 hi t tv->_:=fun w hi tv hrep=>zzh (a:=a) hrep ho hn h1 h2
  cases r with
  | true =>
   refine ⟨⟨#[]⟩,6,fun w hi tv hrep => ?_,.inr (.inl rfl)⟩
   obtain ⟨LN,k,dv,bv,hN,hnear,hit,hk,rd,rb,hyr,HV,cb,hcb,HC⟩:=part w hi tv hrep
   obtain ⟨TD,nd,rfl⟩:=rd.iface
   exact zyi hN hnear hit hk
  | false =>
   cases hv:Tw.Inl.isV (Tw.Inl.ownF t) d with
   | false =>
    refine ⟨⟨#[]⟩,9,fun w hi tv hrep => ?_,.inr (.inr (.inr rfl))⟩
    obtain ⟨LN,k,dv,bv,hN,hnear,hit,hk,rd,rb,hyr,HV,cb,hcb,HC⟩:=part w hi tv hrep
    obtain ⟨TD,nd,rfl⟩:=rd.iface
    rw [hv] at HV
    exact zty hN hnear hit hk HV
   | true =>
    by_cases hc:Tw.Inl.captD x d b []
    ·refine ⟨⟨#[]⟩,8,fun w hi tv hrep => ?_,.inr (.inr (.inl rfl))⟩
     obtain ⟨LN,k,dv,bv,hN,hnear,hit,hk,rd,rb,hyr,HV,cb,hcb,HC⟩:=part w hi tv hrep
     obtain ⟨TD,nd,rfl⟩:=rd.iface
     rw [hv] at HV
     obtain rfl:cb=true:=hcb.2 hc
     exact zv3 hN hnear hit hk HV HC
    ·exact ⟨⟨(Tw.Inl.zli s.data.toList (.lett f0 t0 false x k0 d b)).toArray⟩,0,fun w hi tv hrep=>zv2 hB hrep ho hG hn h1 h2 hv hc,.inl ⟨rfl,⟨f0,t0,k0,x,d,b,rfl,hv,hc⟩,rfl⟩⟩
 | _=>exact absurd (Tw.zb8 hn) (by simp [Tw.yea])
end Go.Proofs.YtckhafpejefbbaaGreatDoor
namespace Go.Proofs.YtckhafpejefbbaaGreatDoor.Tw
open Go
theorem zv4 {dx:Nat} {x:List UInt8} (hx:x.length=dx):∀(S:List Nat) (off:Nat) (m:List UInt8),S.Pairwise (fun f g=>f+dx<=g)->(∀f∈S,off<=f/\f+dx<=off+m.length/\zaw m (f-off) (f+dx-off)=x)->chgR off m (chs dx x S)=m
 | [],_,_,_,_=>rfl
 | f::S,off,m,hp,hb=>by
  have hp':=List.pairwise_cons.1 hp
  obtain ⟨h1,h2,h3⟩:=hb f (by simp)
  have ih:=zv4 hx S (f+dx) (m.drop (f+dx-off)) hp'.2 (fun g hg=>by
   obtain ⟨g1,g2,g3⟩:=hb g (by simp [hg])
   have:=hp'.1 g hg
   refine ⟨this,by rw [List.length_drop]; omega,?_⟩
   rw [<-g3,show g-(f+dx)=(g-off)-(f+dx-off) by omega,show g+dx-(f+dx)=(g+dx-off)-(f+dx-off) by omega,zjf (by omega)])
  show m.take (f-off)++(x++chgR (f+dx) (m.drop (f+dx-off)) (chs dx x S))=m
  rw [ih]
  have e:m.drop (f-off)=x++m.drop (f+dx-off):=by
   have:=(List.take_append_drop dx (m.drop (f-off))).symm
   rw [List.drop_drop,show f-off+dx=f+dx-off by omega] at this
   rw [this]
   congr 1
   rw [<-h3]
   unfold zaw
   rw [show f+dx-off-(f-off)=dx by omega]
  rw [<-e,List.take_append_drop]
theorem zrc {fo:Nat} {l:List UInt8} {k p:Nat} (h:zcd 6100 fo l=some (.fault k p)):k≠0:=by
 unfold zcd at h
 split at h
 ·cases h; omega
 ·exact zuo h
theorem ztz {fo:Nat} {l:List UInt8} {t:T} {sh:List UInt8} (h:zcd 6100 fo l=some (.fine t sh)) {n:T} (hn:n∈t.binds):Nm n.bname:=by
 obtain ⟨hl,body,hL,_,hp,_⟩:=zcw h
 have hT:=znh hL hp
 obtain ⟨to,hs⟩:=(zb2 (zbj t (hT.inc.imp (fun h=>Nat.ne_of_lt h)) n hn)).span n.bpl (by simp)
 obtain ⟨k,hk,k1,k2,k3,k4⟩:=hT.span _ hs
 simp only at k2 k3 k4
 have:=hL.nm k hk k1
 rw [Nat.sub_zero,Nat.sub_zero,k2,k3,<-k4] at this
 exact this
theorem ydt {fo:Nat} {l:List UInt8} {t:T} {sh:List UInt8} (h:zcd 6100 fo l=some (.fine t sh)) {n:T} (hn:n∈t.binds) {y:List UInt8} (Y:Nm y) (hc:¬(y≠n.bname/\n.captN y)) :
  ∃res,zcd 6100 fo (chgR 0 l (chs n.bname.length y (n.bpl::n.useS)))=some res/\((∃k p,res = .fault k p)\/∃t',res = .fine t' sh/\∀m bud r,runS m t bud=some r->runS m t' bud=some r):=by
 obtain ⟨hl,body,hL,_,hp,_⟩:=zcw h
 have hT:=znh hL hp
 have hnd:t.places.Nodup:=hT.inc.imp (fun h=>Nat.ne_of_lt h)
 have hit:=zbj t hnd n hn
 have HP:=zb2 hit
 have hnm:=ztz h hn
 by_cases he:y=n.bname
 ·subst he
  have hR:=zkt hT hL hit
  have hSp:(n.bpl::n.useS).Pairwise (fun f g=>f+n.bname.length<=g):=by
   refine List.Pairwise.imp_of_mem (fun {f g} hf hg hfg => ?_) hR.1
   obtain ⟨a,ha,rfl,_,a2⟩:=hR.2 f hf
   obtain ⟨b,hb,rfl,_,b2⟩:=hR.2 g hg
   have:=((hL.toks).1 a ha).lt
   have:=((hL.toks).1 b hb).lt
   rcases zf4 hL ha hb with h | h | h
   ·omega
   ·omega
   ·subst h; omega
  have hin:∀f∈n.bpl::n.useS,0<=f/\f+n.bname.length<=0+l.length/\zaw l (f-0) (f+n.bname.length-0)=n.bname:=fun f hf=>by
   obtain ⟨to,hs⟩:=HP.span f hf
   obtain ⟨a,b⟩:=hT.ok hL _ hs
   obtain ⟨_,_,_,_,_,q⟩:=hT.span _ hs
   simp only at a b q
   refine ⟨by omega,by omega,?_⟩
   rw [Nat.sub_zero,Nat.sub_zero,<-a]
   exact q.symm
  rw [zv4 rfl _ 0 l hSp hin]
  exact ⟨_,h,.inr ⟨t,rfl,fun _ _ _ hr=>hr⟩⟩
 ·have hc':¬n.captN y:=fun q=>hc ⟨he,q⟩
  by_cases hlen:(chgR 0 l (chs n.bname.length y (n.bpl::n.useS))).length<=300
  ·obtain ⟨h1,h2⟩:=ydg h hit Y hc' hlen (List.length_pos_iff.2 hnm.ne)
   exact ⟨_,h1,.inr ⟨_,rfl,fun _ _ _ hr=>h2.run hr⟩⟩
  ·exact ⟨.fault 1 0,by unfold zcd; rw [if_pos (by omega)],.inl ⟨1,0,rfl⟩⟩
theorem ydu {fo:Nat} {l:List UInt8} {t:T} {sh:List UInt8} (h:zcd 6100 fo l=some (.fine t sh)) {n d b:T} {f0 t0 k0:Nat} {x:List UInt8} (hn:n∈t.binds) (he:n = .lett f0 t0 false x k0 d b) (hv:Inl.isV (Inl.ownF t) d=true) (hc:¬Inl.captD x d b []) :
  ∃fo' res,zcd 6100 fo' (Inl.zli l n)=some res/\((∃k p,res = .fault k p)\/∃t' sh',res = .fine t' sh'/\∀m bud r,runS m t bud=some r->∃m',runS m' t' bud=some r):=by
 obtain ⟨fo',res,hres⟩:=zuz (Inl.zli l n)
 refine ⟨fo',res,hres fo' (znL _),?_⟩
 cases res with
 | fault k p=>exact .inl ⟨k,p,rfl⟩
 | fine t' sh'=>exact .inr ⟨t',sh',rfl,fun m bud r hr=>Inl.ydp h hn he hv hc (hres fo' (znL _)) hr⟩
end Go.Proofs.YtckhafpejefbbaaGreatDoor.Tw
namespace Go.Proofs.YtckhafpejefbbaaGreatDoor
open Go.RowKit
end Go.Proofs.YtckhafpejefbbaaGreatDoor
namespace Go.Proofs.YtckhafpejefbbaaGreatDoor.Tw
open Go
end Go.Proofs.YtckhafpejefbbaaGreatDoor.Tw
namespace Go.Proofs.YtckhafpejefbbaaGreatDoor
open Go.RowKit
structure Lib6:Prop extends Lib5 where
 bd:Said.Builder
theorem lib6:Lib6 := {lib5 with bd:=⟨fun B b l w h hB=>Tryz.Builder_String_any_k B b l w h hB⟩}
theorem zv5 (hIB:Said.IndexByte) (hPI:Said.ParseInt) (hIt:Said.ItoaSmall) {s:ByteArray} {fo:Nat} {t:Tw.T} {sh:List UInt8} (h:Tw.zcd 6100 fo s.data.toList=some (.fine t sh)) (w:World) :
  Calls Tryz.prog 16 #[.string s] w fun e w'=>∃bt,e = .returned (.tuple #[.pointer (some ⟨bt,0,none⟩),.int .i64 0,.int .i64 0])/\TextAt w' bt s t/\w.grownBy w' none/\w.heap.size<=bt:=by
 have hl:s.data.toList.length=s.size:=Array.length_toList
 have hs:=(Tw.zcw h).1
 rw [hl] at hs
 unfold Tw.zcd at h
 rw [if_neg (by omega)] at h
 obtain ⟨v,W,hc1,hc2,hg⟩:=zkh s w
 have G:=bV hg
 have HR:=bV h
 clear hg h hl
 have hs2:¬(300:Int)<s.size:=by omega
 go_enter Tryz.func16,Tryz.ntmps16
 go_wp2_with fail
 refine (zqg hIB hPI hIt s (by omega) (uh HR) W).mono ?_
 rintro e1 w1 ⟨tv,rfl,hR,hk⟩
 have R1:=bV hR
 obtain ⟨PT,nt,rfl⟩:=hR.iface
 have K1:Hid (TK w.heap.size WtS w w1):=(TK.of_grown _ _ G.out).trans (hk.base G.out.size)
 clear hR hk
 go_wp2_with fail
 go_ret3
 exact ⟨_,rfl,⟨_,_,zad w1 _,(uh R1).grown (zwA _ _ none) (Nat.zero_le _) (znL _)⟩,zae K1.out.grown _,K1.out.grown.size⟩
theorem zrd:∀(E:List (Tw.T×Value)) (i:Nat) (h:i<E.length),(zen E)[i * 3]? = some (ug E[i].1.bname)/\(zen E)[i * 3+1]? = some (.int .i64 E[i].1.bpl)/\(zen E)[i * 3+2]? = some E[i].2
 | c::cs,0,_=>⟨rfl,rfl,rfl⟩
 | c::cs,i+1,h=>by
  have:=zrd cs i (by simpa using h)
  rw [show (i+1) * 3=(i * 3)+3 by omega,show i * 3+3+1=(i * 3+1)+3 by omega,show i * 3+3+2=(i * 3+2)+3 by omega]
  exact this
theorem BdAt.get {W:World} {v:Value} {L:List Tw.T} (h:BdAt W v L) {i:Nat} {n:Tw.T} (hi:L[i]? = some n):∃g c u,v = .slice (some ⟨g,0,none⟩) L.length c/\W.cell? ⟨g,i * 3,none⟩=some (ug n.bname)/\W.cell? ⟨g,i * 3+1,none⟩=some (.int .i64 n.bpl)/\W.cell? ⟨g,i * 3+2,none⟩=some u/\UsesAt W u n.useS:=by
 obtain ⟨E,rfl,hr,hu⟩:=h
 obtain ⟨hlt,rfl⟩:=zlE.1 hi
 have hlt':i<E.length:=by simpa using hlt
 rcases hr.2 with ⟨_,e⟩ | ⟨g,cap,cur,rfl,hg,hb,h1,h2,h3,h4⟩
 ·omega
 ·have hlen:(zen E).length=E.length * 3:=hr.1
  have key:∀j,j<E.length * 3->W.cell? ⟨g,j,none⟩=(zen E)[j]? := fun j hj=>by
   rw [cell_of_row _ _ _ _ _ _ hb,<-h4,List.getElem?_take_of_lt hj]
   simp
  obtain ⟨a,b,c⟩:=zrd E i hlt'
  have e1:(E.map (·.1))[i]=E[i].1:=by simp
  refine ⟨g,cap,E[i].2,by simp,?_,?_,?_,?_⟩
  ·rw [key _ (by omega),a,e1]
  ·rw [key _ (by omega),b,e1]
  ·rw [key _ (by omega),c]
  ·rw [e1]; exact hu _ (List.getElem_mem _)
theorem UsesAt.get {W:World} {u:Value} {l:List Nat} (h:UsesAt W u l):∃p c,u = .slice p l.length c/\∀(k f:Nat),l[k]? = some f->∃g,p=some ⟨g,0,none⟩/\W.cell? ⟨g,k,none⟩=some (.int .i64 f):=by
 rcases h.2 with ⟨rfl,e⟩ | ⟨g,cap,cur,rfl,hg,hb,h1,h2,h3,h4⟩
 ·refine ⟨none,0,by rw [e],fun k f hk => ?_⟩
  have:l=[]:=List.length_eq_zero_iff.1 e
  subst this
  cases hk
 ·refine ⟨some ⟨g,0,none⟩,cap,rfl,fun k f hk=>⟨g,rfl,?_⟩⟩
  have hlt:=(zlE.1 hk).1
  rw [cell_of_row _ _ _ _ _ _ hb]
  have e:cur[k]? = (l.map fun f:Nat=>Value.int .i64 f)[k]? := by
   rw [<-h4,List.getElem?_take_of_lt (by omega)]
   simp
  rw [e,List.getElem?_map,hk]
  rfl
theorem zlh {w w1 w2:World} {b:Nat} (h:w.grownBy w1 none) (k:w1.grownBy w2 (some b)) (hb:w.heap.size<=b):w.grownBy w2 none :=
 ⟨k.os.trans h.os,k.tape.trans h.tape,k.output.trans h.output,Nat.le_trans h.size k.size,fun i hi _=>(k.block i (Nat.lt_of_lt_of_le hi h.size) (fun e=>by cases e; omega)).trans (h.block i hi (by simp))⟩
theorem TextAt.grown {w w':World} {bt:Nat} {s:ByteArray} {t:Tw.T} (h:TextAt w bt s t) (hg:w.grownBy w' none):TextAt w' bt s t:=h.kp (Kp.of_grown hg) (fun _ _ hc=>zbG hg hc)
open Go.RowKit
theorem zsn (hIB:Said.IndexByte) (hPI:Said.ParseInt) (hIt:Said.ItoaSmall) {s:ByteArray} {fo:Nat} {t:Tw.T} {sh:List UInt8} (h:Tw.zcd 6100 fo s.data.toList=some (.fine t sh)) (w:World) :
  Calls Tryz.prog 19 #[.string s] w fun e w'=>∃bt,e = .returned (.pointer (some ⟨bt,0,none⟩))/\TextAt w' bt s t/\w.grownBy w' none/\w.heap.size<=bt:=by
 have HH:=bV h
 clear h
 go_enter Tryz.func19,Tryz.ntmps19
 go_wp2_with fail
 refine (zv5 hIB hPI hIt (uh HH) w).mono ?_
 rintro e1 w1 ⟨bt,rfl,hT,hk,hbt⟩
 have T1:=bV hT
 have K1:=bV hk
 clear hT hk
 go_wp2_with fail
 refine (zhl (uh T1)).mono ?_
 rintro e1 w2 ⟨rfl,rfl⟩
 go_wp2_with fail
 go_ret
 exact ⟨bt,rfl,uh T1,uh K1,hbt⟩
theorem zkz {fo:Nat} {l:List UInt8} {t:Tw.T} {sh:List UInt8} (h:Tw.zcd 6100 fo l=some (.fine t sh)):∃body,Opened l t body/\Tw.G l .expr body t:=by
 obtain ⟨hl,body,hL,_,hp,_⟩:=Tw.zcw h
 exact ⟨body,⟨hL,Tw.znh hL hp,hl⟩,(Tw.Inl.zts hL hp).1⟩
end Go.Proofs.YtckhafpejefbbaaGreatDoor
