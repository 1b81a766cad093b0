"""What follows from equations, within a degree, and how."""
