"""What a lute tablature sounds on an instrument. The calls are in lutesounds.desk."""
