import Derived.Test.YtamjpojnonaecaaGreatDoorM48
namespace Go.Proofs.YtamjpojnonaecaaGreatDoor
theorem okF_5 : (List.range 128).all (fun i => okF (640 + i)) = true := by decide +kernel
end Go.Proofs.YtamjpojnonaecaaGreatDoor
namespace Go.Proofs.YtamjpojnonaecaaGreatDoor
theorem okF_6 : (List.range 128).all (fun i => okF (768 + i)) = true := by decide +kernel
end Go.Proofs.YtamjpojnonaecaaGreatDoor
namespace Go.Proofs.YtamjpojnonaecaaGreatDoor
theorem okF_7 : (List.range 128).all (fun i => okF (896 + i)) = true := by decide +kernel
end Go.Proofs.YtamjpojnonaecaaGreatDoor
namespace Go.Proofs.YtamjpojnonaecaaGreatDoor
theorem okF_8 : (List.range 128).all (fun i => okF (1024 + i)) = true := by decide +kernel
end Go.Proofs.YtamjpojnonaecaaGreatDoor
