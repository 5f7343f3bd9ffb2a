"""An airport's ground: the tower, its vehicles, and the frames between them."""
