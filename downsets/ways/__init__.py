"""Line-ups: the ways through the closed lots."""
