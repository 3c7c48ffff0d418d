"""Warping: into which sections a warp's threads are cut, so that few bobbins are put on."""
